"""Circuits: GATES on wires, their TABLES, and where two of them part."""

from eighthturns.deeds import deeds_done, deeds_of_circuit, deeds_table
from eighthturns.errors import NoPaper, Unfit
from eighthturns.gates import GATE_WIRES, check_wires
from eighthturns.shapes import are_below, frozen, is_below, is_number
from eighthturns.tables import columns_of, like_turn, turns_to

WORDS_BACK = {"T": ("Z", "S", "T"), "S": ("Z", "S"), "W": ("W", "W", "W", "W", "W", "W", "W")}


def is_gate(n, thing):
    """Whether thing is a GATE for a CIRCUIT of n wires."""
    if not isinstance(thing, tuple) or len(thing) == 0:
        return False
    if not isinstance(thing[0], str) or thing[0] not in GATE_WIRES:
        return False
    wires = thing[1:]
    return are_below(wires, n, GATE_WIRES[thing[0]]) and all_unlike(wires)


def all_unlike(wires):
    """Whether no two of these numbers are one."""
    return len(set(wires)) == len(wires)


def is_circuit(thing):
    """Whether thing is a CIRCUIT."""
    if not isinstance(thing, tuple) or len(thing) != 2:
        return False
    n, gates = thing
    if not is_number(n) or n < 1 or not isinstance(gates, tuple):
        return False
    return all([is_gate(n, gate) for gate in gates])


def gate_table(n, gate):
    """The TABLE of the CIRCUIT of n wires with this GATE alone."""
    return circuit_table((n, (gate,)))


def circuit_table(circuit):
    """The TABLE of the CIRCUIT."""
    return deeds_table(1 << circuit[0], deeds_of_circuit(circuit))


def run_state(circuit, state):
    """The STATE behind the CIRCUIT."""
    if len(state) != 1 << circuit[0]:
        raise Unfit()
    return deeds_done(state, deeds_of_circuit(circuit))


def circuit_back(circuit):
    """The CIRCUIT that takes back what this one does."""
    n, gates = frozen(circuit)
    back = []
    for gate in gates[::-1]:
        words = WORDS_BACK.get(gate[0], (gate[0],))
        back.extend([(word,) + gate[1:] for word in words])
    return n, tuple(back)


def put_behind(one, other):
    """The GATES of one, then those of other."""
    check_wires_alike(one, other)
    n, gates = frozen(one)
    return n, gates + frozen(other[1])


def check_wires_alike(one, other):
    """Raise Unfit if both have not as many wires."""
    if one[0] != other[0]:
        raise Unfit()


def wires_moved(circuit, many, wires):
    """The CIRCUIT of many wires in which wires[q] stands for wire q."""
    n, gates = circuit
    if len(wires) != n:
        raise Unfit()
    check_wires(many, wires)
    if not all_unlike(wires):
        raise Unfit()
    return many, tuple([(gate[0],) + tuple([wires[wire] for wire in gate[1:]]) for gate in gates])


def circuits_alike(one, other):
    """Whether their TABLES are equal."""
    check_wires_alike(one, other)
    return circuit_table(one) == circuit_table(other)


def circuits_like(one, other):
    """Whether their TABLES are like."""
    check_wires_alike(one, other)
    return like_turn(circuit_table(one), circuit_table(other)) is not None


def circuit_columns(circuit):
    """The columns of the TABLE of the CIRCUIT."""
    return columns_of(circuit_table(circuit))


def parting_place(one, other):
    """The least place whose columns are not equal."""
    check_wires_alike(one, other)
    for place, (left, right) in enumerate(zip(circuit_columns(one), circuit_columns(other))):
        if left != right:
            return place
    raise NoPaper()


def is_parting_place(one, other, thing):
    """Whether thing is a place whose columns are not equal."""
    check_wires_alike(one, other)
    if not is_below(thing, 1 << one[0]):
        return False
    return circuit_columns(one)[thing] != circuit_columns(other)[thing]


def column_turns(one, other):
    """For each place the turns that make the column of other of that of one, or None."""
    return [turns_to(left, right) for left, right in zip(circuit_columns(one), circuit_columns(other))]


def parting_pair(one, other):
    """The least pair of places for whose columns no one power of w does."""
    check_wires_alike(one, other)
    turns = column_turns(one, other)
    for p in range(len(turns)):
        for q in range(p, len(turns)):
            if turns_part(turns, p, q):
                return (p, q)
    raise NoPaper()


def turns_part(turns, p, q):
    """Whether no one number of turns does for the columns of p and of q."""
    return turns[p] is None or turns[p] != turns[q]


def is_parting_pair(one, other, thing):
    """Whether thing is a pair of places for whose columns no one power of w does."""
    check_wires_alike(one, other)
    if not are_below(thing, 1 << one[0], 2) or thing[0] > thing[1]:
        return False
    return turns_part(column_turns(one, other), thing[0], thing[1])
