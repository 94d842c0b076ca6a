"""A board that holds a CIRCUIT and the line of EDITS that made it."""

from eighthturns.circuits import circuit_table, circuits_like, run_state
from eighthturns.errors import NoEdit, NoGate, NoPlace, NothingDone
from eighthturns.gates import check_wires
from eighthturns.shapes import frozen
from eighthturns.tables import unit_state


def gates_behind(edits):
    """The list of the GATES behind these EDITS."""
    gates = []
    for edit in edits:
        if edit[0] == "gate":
            gates.append(edit[1])
        elif edit[0] == "put":
            gates.insert(edit[1], edit[2])
        else:
            del gates[edit[1]]
    return gates


class Board:
    """A CIRCUIT of some number of wires, changed by EDITS."""

    def __init__(self, wires):
        self.wires = wires
        self.line = []
        self.undone = []

    def __eq__(self, other):
        return isinstance(other, Board) and self.wires == other.wires and self.line == other.line

    def __len__(self):
        return len(self.line)

    def circuit_now(self):
        """The CIRCUIT."""
        return self.circuit_behind(len(self.line))

    def circuit_behind(self, many):
        """The CIRCUIT behind the first so many EDITS of the line."""
        return self.wires, tuple(gates_behind(self.line[:many]))

    def table_now(self):
        """The TABLE of the CIRCUIT."""
        return circuit_table(self.circuit_now())

    def edits(self):
        """The list of the EDITS of the line."""
        return list(self.line)

    def do(self, edit):
        """Do this EDIT; what was undone is dropped."""
        own = frozen(edit)
        many = len(gates_behind(self.line))
        # A GATE may be put behind the last one, but none goes from there.
        last = many if own[0] == "put" else many - 1
        if own[0] != "gate" and not 0 <= own[1] <= last:
            raise NoGate(own[1])
        if own[0] != "out":
            check_wires(self.wires, own[-1][1:])
        self.line.append(own)
        self.undone = []

    def put_last(self, gate):
        """Do the EDIT that puts this GATE last."""
        self.do(("gate", gate))

    def undo(self):
        """Take back the last EDIT and return it."""
        if len(self.line) == 0:
            raise NothingDone()
        self.undone.append(self.line.pop())
        return self.undone[-1]

    def redo(self):
        """Put back the EDIT undone last and return it."""
        if len(self.undone) == 0:
            raise NothingDone()
        self.line.append(self.undone.pop())
        return self.line[-1]

    def behind(self, place):
        """The STATE that the CIRCUIT makes of the one with 1 at place alone."""
        many = 1 << self.wires
        if not 0 <= place < many:
            raise NoPlace(place)
        return run_state(self.circuit_now(), unit_state(many, place))

    def eighths_now(self):
        """How many GATES T there are."""
        return [gate[0] for gate in gates_behind(self.line)].count("T")

    def like_at(self, many):
        """Whether the TABLE is like that behind the first so many EDITS."""
        if not 0 <= many <= len(self.line):
            raise NoEdit(many)
        return circuits_like(self.circuit_now(), self.circuit_behind(many))
