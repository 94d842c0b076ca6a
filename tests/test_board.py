"""[22]: board.py: a Board beside a plain list of GATES."""

import copy
import inspect
import unittest

import drawn
import exact
from eighthturns.board import Board
from eighthturns.circuits import circuit_table, circuits_like, is_circuit
from eighthturns.errors import NoEdit, NoGate, NoPlace, NoWire, NothingDone
from interface import BOARD_METHODS

ZERO, ONE, HALF, LESS = drawn.ZERO, drawn.ONE, drawn.HALF, drawn.LESS


def gates_after(edits):
    gates = []
    for word, *rest in edits:
        if word == "gate":
            gates = gates + [rest[0]]
        elif word == "put":
            gates = gates[:rest[0]] + [rest[1]] + gates[rest[0]:]
        else:
            gates = gates[:rest[0]] + gates[rest[0] + 1:]
    return tuple(gates)


def edit_drawn(draw, n, many):
    kind = draw.choice(("gate", "gate", "put", "out"))
    if kind == "gate":
        return (kind, drawn.gate(draw, n))
    if kind == "put":
        return (kind, draw.randint(0, many), drawn.gate(draw, n))
    return (kind, draw.randrange(many)) if many else ("gate", drawn.gate(draw, n))


def all_of(board):
    """All that a Board tells, its undone EDITS too, without a change of it."""
    other = copy.deepcopy(board)
    undone = []
    while True:
        try:
            undone.append(other.redo())
        except NothingDone:
            break
    return (board.circuit_now(), board.edits(), len(board), board.eighths_now(), undone)


def filled_board():
    board = Board(2)
    for edit in (("gate", ("H", 0)), ("gate", ("CX", 0, 1)), ("put", 1, ("T", 0)), ("out", 0)):
        board.do(edit)
    return board


class Edits(unittest.TestCase):
    def test_a_new_one(self):
        for wires in (1, 2, 3):
            board = Board(wires)
            self.assertEqual(repr(board.circuit_now()), repr((wires, ())))
            self.assertEqual(board.table_now(), drawn.still(2 ** wires))
            self.assertEqual((board.edits(), len(board), board.eighths_now(), board.like_at(0)), ([], 0, 0, True))
            self.assertEqual([board.behind(place) for place in range(2 ** wires)], list(drawn.still(2 ** wires)))
            for step in (board.undo, board.redo):
                with self.assertRaises(NothingDone):
                    step()

    def test_drawn_edits_undo_and_redo(self):
        draw = drawn.rng(1)
        for n in (1, 2, 3):
            board, line, undone = Board(n), [], []
            for _ in range(120):
                step = draw.choice(("do", "do", "do", "undo", "redo"))
                if step == "do" and len(line) < 40:
                    edit = edit_drawn(draw, n, len(gates_after(line)))
                    self.assertIsNone(board.do(edit))
                    line, undone = line + [edit], []
                elif step == "undo" and line:
                    undone.append(line.pop())
                    self.assertEqual(repr(board.undo()), repr(undone[-1]))
                elif step == "redo" and undone:
                    line.append(undone.pop())
                    self.assertEqual(repr(board.redo()), repr(line[-1]))
                self.assertEqual(repr(board.circuit_now()), repr((n, gates_after(line))))
                self.assertEqual(repr(board.edits()), repr(line))
                self.assertEqual(len(board), len(line))
                self.assertEqual(board.eighths_now(), [gate[0] for gate in gates_after(line)].count("T"))
            self.assertIs(is_circuit(board.circuit_now()), True)

    def test_put_last(self):
        one, other = Board(2), Board(2)
        for gate in (("H", 0), ("CX", 1, 0), ("W",)):
            self.assertIsNone(one.put_last(gate))
            other.do(("gate", gate))
        self.assertEqual(one.edits(), [("gate", ("H", 0)), ("gate", ("CX", 1, 0)), ("gate", ("W",))])
        self.assertEqual(one, other)

    def test_put_at_the_last_number_and_one_behind_it(self):
        board = Board(1)
        self.assertIsNone(board.do(("put", 0, ("H", 0))))
        board.do(("put", 1, ("T", 0)))
        board.do(("put", 0, ("S", 0)))
        self.assertEqual(board.circuit_now(), (1, (("S", 0), ("H", 0), ("T", 0))))
        self.raises(NoGate, 4, board, ("put", 4, ("H", 0)))
        self.raises(NoGate, 3, board, ("out", 3))
        board.do(("out", 2))
        self.assertEqual(board.circuit_now(), (1, (("S", 0), ("H", 0))))

    def raises(self, error, number, board, edit):
        before = all_of(board)
        with self.assertRaises(error) as caught:
            board.do(edit)
        self.assertEqual(vars(caught.exception), {"number": number})
        self.assertEqual(all_of(board), before)

    def test_edits_that_raise_change_nothing(self):
        board = filled_board()
        board.undo()
        board.undo()
        for error, number, edit in (
                (NoWire, 2, ("gate", ("H", 2))), (NoWire, 5, ("gate", ("CX", 5, 9))), (NoWire, 2, ("gate", ("CX", 1, 2))),
                (NoWire, 3, ("gate", ("CCX", 0, 3, 2))), (NoGate, 3, ("put", 3, ("H", 0))), (NoGate, 3, ("put", 3, ("H", 7))),
                (NoWire, 7, ("put", 2, ("H", 7))), (NoWire, 2, ("put", 0, ("CZ", 2, 3))), (NoGate, 2, ("out", 2)), (NoGate, 99, ("out", 99)),
                (NoGate, 10 ** 20, ("put", 10 ** 20, ("W",))), (NoGate, -1, ("out", -1)), (NoGate, -1, ("put", -1, ("W",)))):
            self.raises(error, number, board, edit)
            self.raises(error, number, board, list(edit))
        for gate in (("X", 2), ["X", 2]):
            with self.assertRaises(NoWire):
                board.put_last(gate)
        self.assertEqual(board.redo(), ("put", 1, ("T", 0)))
        self.raises(NoGate, 0, Board(3), ("out", 0))
        self.raises(NoGate, 1, Board(3), ("put", 1, ("W",)))

    def test_undo_and_redo_at_both_ends(self):
        board = filled_board()
        edits = board.edits()
        self.assertEqual([board.undo() for _ in edits], edits[::-1])
        with self.assertRaises(NothingDone):
            board.undo()
        self.assertEqual(board.circuit_now(), (2, ()))
        self.assertEqual([board.redo() for _ in edits], edits)
        with self.assertRaises(NothingDone):
            board.redo()
        self.assertEqual(board, filled_board())

    def test_an_edit_behind_undo_drops_what_was_undone(self):
        board = filled_board()
        board.undo()
        board.undo()
        board.do(("gate", ("W",)))
        with self.assertRaises(NothingDone):
            board.redo()
        self.assertEqual(board.edits(), [("gate", ("H", 0)), ("gate", ("CX", 0, 1)), ("gate", ("W",))])
        board.undo()
        self.assertEqual(board.redo(), ("gate", ("W",)))
        with self.assertRaises(NothingDone):
            board.redo()


class Told(unittest.TestCase):
    def test_tables_and_states(self):
        draw = drawn.rng(2)
        for n in (1, 2, 3):
            board = Board(n)
            for gate in drawn.circuit(draw, n, 12)[1]:
                board.put_last(gate)
            table = board.table_now()
            self.assertEqual(exact.table_values(table), exact.circuit_values(board.circuit_now()))
            for place in range(2 ** n):
                self.assertEqual(repr(board.behind(place)), repr(tuple(row[place] for row in table)))
            for place in (-1, 2 ** n, 2 ** n + 5, 10 ** 30):
                with self.assertRaises(NoPlace) as caught:
                    board.behind(place)
                self.assertEqual(vars(caught.exception), {"number": place})

    def test_like_at(self):
        draw = drawn.rng(3)
        seen = set()
        for n in (1, 2, 3):
            board, line = Board(n), []
            for _ in range(14):
                edit = draw.choice((edit_drawn(draw, n, len(gates_after(line))), ("put", 0, ("W",))))
                board.do(edit)
                line.append(edit)
            for many in range(15):
                wanted = circuits_like((n, gates_after(line)), (n, gates_after(line[:many])))
                self.assertIs(board.like_at(many), wanted)
                seen.add(wanted)
            for many in (-1, 15, 100):
                with self.assertRaises(NoEdit) as caught:
                    board.like_at(many)
                self.assertEqual(vars(caught.exception), {"number": many})
            board.undo()
            with self.assertRaises(NoEdit):
                board.like_at(14)
            self.assertIs(board.like_at(13), True)
        self.assertEqual(seen, {True, False})

    def test_whirls_anywhere_leave_it_like_itself(self):
        draw = drawn.rng(4)
        board = Board(2)
        for gate in drawn.circuit(draw, 2, 8)[1]:
            board.put_last(gate)
        for number in (0, 3, 8, 11, 2, 13):
            board.do(("put", number, ("W",)))
            self.assertIs(board.like_at(8), True)
        for number in [at for at, gate in enumerate(board.circuit_now()[1]) if gate == ("W",)][::-1]:
            board.do(("out", number))
            self.assertIs(board.like_at(8), True)

    def test_the_document_s_words(self):
        board = Board(1)
        for word in "XTXT":
            board.put_last((word, 0))
        self.assertEqual(board.table_now(), circuit_table((1, (("W",),))))


class Objects(unittest.TestCase):
    def test_equality(self):
        self.assertTrue(Board(2) == Board(2))
        self.assertFalse(Board(2) != Board(2))
        self.assertTrue(Board(2) != Board(3))
        one, other = filled_board(), filled_board()
        self.assertTrue(one == other)
        other.undo()
        self.assertFalse(one == other)
        other.redo()
        self.assertTrue(one == other)
        other.undo()
        one.undo()
        one.do(("gate", ("W",)))
        one.undo()
        # What was undone is in no line.
        self.assertTrue(one == other)
        by_other_edits = Board(2)
        by_other_edits.do(("put", 0, ("H", 0)))
        plain = Board(2)
        plain.put_last(("H", 0))
        self.assertEqual(by_other_edits.circuit_now(), plain.circuit_now())
        self.assertFalse(by_other_edits == plain)
        for thing in (None, 0, 2, "", [], (), plain.edits(), plain.circuit_now(), object()):
            self.assertFalse(plain == thing)
            self.assertTrue(plain != thing)

    def test_length_and_iteration(self):
        board = filled_board()
        self.assertEqual(len(board), 4)
        for function in (iter, list, tuple, sorted, sum):
            with self.assertRaises(TypeError):
                function(board)
        with self.assertRaises(TypeError):
            ("gate", ("W",)) in board
        with self.assertRaises(TypeError):
            for _ in Board(1):
                pass

    def test_arguments_are_copied(self):
        board, gate = Board(2), ["CX", 0, 1]
        edit = ["put", 0, gate]
        board.do(edit)
        board.put_last(gate)
        gate[1:] = [1, 0]
        edit[1] = 7
        self.assertEqual(repr(board.edits()), repr([("put", 0, ("CX", 0, 1)), ("gate", ("CX", 0, 1))]))
        self.assertEqual(repr(board.circuit_now()), repr((2, (("CX", 0, 1),) * 2)))
        self.assertEqual(repr(board.undo()), repr(("gate", ("CX", 0, 1))))
        self.assertEqual(repr(board.redo()), repr(("gate", ("CX", 0, 1))))

    def test_arguments_stay_as_they_were(self):
        board, edit = Board(2), ["put", 0, ["CX", 0, 1]]
        board.do(edit)
        self.assertEqual(edit, ["put", 0, ["CX", 0, 1]])

    def test_returned_lists_are_new(self):
        board = filled_board()
        found = board.edits()
        self.assertIs(type(found), list)
        found.append(None)
        found[0] = None
        self.assertEqual(board, filled_board())
        self.assertEqual(board.edits(), filled_board().edits())

    def test_methods_change_their_own_object_alone(self):
        one, other = filled_board(), filled_board()
        one.undo()
        one.do(("gate", ("W",)))
        self.assertEqual(all_of(other), all_of(filled_board()))

    def test_asking_changes_nothing(self):
        board = filled_board()
        board.undo()
        before = all_of(board)
        for _ in range(2):
            board.circuit_now(), board.table_now(), board.edits(), board.behind(0), board.eighths_now(), board.like_at(1), len(board)
        self.assertEqual(all_of(board), before)

    def test_names_of_arguments(self):
        board = Board(wires=2)
        board.do(edit=("gate", ("T", 0)))
        board.put_last(gate=("T", 1))
        self.assertEqual((board.behind(place=0)[0], board.like_at(many=2)), (ONE, True))
        for name, told in BOARD_METHODS.items():
            self.assertIn(name, vars(Board))
            self.assertEqual(list(inspect.signature(vars(Board)[name]).parameters), ["self"] + told.split())
        self.assertEqual(Board.__module__, "eighthturns.board")
        self.assertEqual(Board.__bases__, (object,))


if __name__ == "__main__":
    unittest.main()
