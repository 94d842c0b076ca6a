"""[22]: desk.py: which lines are requests, and the replies to them."""

import unittest

import drawn
from eighthturns.board import Board
from eighthturns.desk import is_request, replies
from eighthturns.errors import BadLine, NoEdit, NoGate, NoPlace, NothingDone, NoWire
from later_calls import REQUESTS

GATES = ("H 0", "T 1", "S 2", "Z 0", "X 9", "CX 0 1", "CX 1 0", "CCX 2 0 1", "CZ 7 8", "W", "H 9999999999999", "CX 1000000000000 0")
REQUESTED = GATES + tuple("put " + number + " " + gate for number in ("0", "7", "9999999999999") for gate in GATES) + (
    "out 0", "out 12", "out 9999999999999", "undo", "redo", "gates", "eighths", "behind 0", "behind 1234567890123", "like 0", "like 10")
NOT_REQUESTED = (
    "", " ", "\n", "H", "H 0 1", "H -1", "H 00", "H 01", "H +0", "H -0", "H x", "H 0x", "h 0", "H 10000000000000", "H 1.0", "H 0\n", "\nH 0",
    "H 0\nH 0", " H 0", "H 0 ", "H  0", "H\t0", "CX 0", "CX 0 0", "CX 1 1", "CX 0 1 2", "CCX 0 1", "CCX 0 1 0", "CCX 0 0 1", "CZ 3 3", "W 0", "W ",
    " W", "CY 0 1", "put", "put 0", "put 0 ", "put H 0", "put 0 H", "put 0 CX 1 1", "put -1 H 0", "put 00 W", "put 01 W", "put 10000000000000 W",
    "put 0  W", "put  0 W", "put 0 W 0", "put 0 put 0 W", "put 0 undo", "put 0 gate", "put x W", "Put 0 W", "out", "out ", "out -1", "out 01", "out 0 0",
    "out H", "out 10000000000000", "undo 0", "undo ", " undo", "Undo", "redo 1", "redo\n", "gates 0", "gate H 0", "gates ", "eighths 1", "eighth", "behind",
    "behind -1", "behind 0 1", "behind 00", "behind 10000000000000", "behind x", "like", "like -1", "like 0 0", "like 00", "like x", "like yes",
    "wires 2", "turn 0", "0", "None", "\u0048 \u0661", "H \u00b2", "like \u0661", "undo\r", "W\t", "out 0.0", "out 1_0")


def told(board, line):
    """The reply of a Board that is asked by its methods."""
    words = line.split(" ")
    numbers = [int(word) if word.isdigit() else word for word in words]
    try:
        if words[0] == "gates":
            return str(len(board.circuit_now()[1]))
        if words[0] == "eighths":
            return str(board.eighths_now())
        if words[0] == "behind":
            return ", ".join(" ".join(str(number) for number in ray) for ray in board.behind(numbers[1]))
        if words[0] == "like":
            return "yes" if board.like_at(numbers[1]) else "no"
        if words[0] in ("undo", "redo"):
            getattr(board, words[0])()
        elif words[0] == "put":
            board.do(("put", numbers[1], tuple(numbers[2:])))
        elif words[0] == "out":
            board.do(("out", numbers[1]))
        else:
            board.put_last(tuple(numbers))
    except (NoWire, NoGate, NoPlace, NoEdit, NothingDone) as error:
        return "no " + type(error).__name__
    return "done"


class Requests(unittest.TestCase):
    def test_which_are_requests(self):
        for line in REQUESTED:
            self.assertIs(is_request(line), True, line)
            self.assertIs(is_request(line=line), True)

    def test_which_are_none(self):
        for line in NOT_REQUESTED:
            self.assertIs(is_request(line), False, repr(line))
        for line in REQUESTED:
            for wrong in (line + " ", " " + line, line + "\n", line + " 0 0", line.lower() + " x", line.replace(" ", "  ") + " ", line + "\nundo"):
                self.assertIs(is_request(wrong), False, repr(wrong))


class Replies(unittest.TestCase):
    def test_by_the_methods_of_a_board(self):
        draw = drawn.rng(1)
        seen = set()
        for n in (1, 2, 3):
            for _ in range(12):
                lines = [self.line_drawn(draw, n) for _ in range(draw.randint(0, 40))]
                board = Board(n)
                wanted = [told(board, line) for line in lines]
                found = replies(n, "\n".join(lines))
                self.assertIs(type(found), list)
                self.assertEqual(found, wanted)
                seen |= {reply for reply in wanted if not reply[0].isdigit() and reply[0] != "-"}
        self.assertEqual(seen, {"done", "yes", "no", "no NoWire", "no NoGate", "no NoPlace", "no NoEdit", "no NothingDone"})

    def line_drawn(self, draw, n):
        gate = " ".join(str(part) for part in drawn.gate(draw, 3 if draw.random() < 0.2 else n))
        number = str(draw.choice((0, 0, 1, 2, 5, 9)))
        return draw.choice((gate, gate, gate, gate, "put " + number + " " + gate, "out " + number, "undo", "redo", "gates", "eighths",
                            "behind " + number, "like " + number))

    def test_each_error(self):
        self.assertEqual(replies(1, "undo\nredo\nout 0\nput 1 W\nH 1\nbehind 2\nlike 1\nput 0 CX 0 1\nput 2 CX 0 1"),
                         ["no NothingDone", "no NothingDone", "no NoGate", "no NoGate", "no NoWire", "no NoPlace", "no NoEdit", "no NoWire",
                          "no NoGate"])

    def test_what_raises_changes_nothing(self):
        lines = REQUESTS.split("\n")
        with_errors = replies(2, "\n".join(line + "\nH 2\nout 99\nput 99 W\nbehind 4\nlike 99" for line in lines))
        self.assertEqual(with_errors[::6], replies(2, REQUESTS))

    def test_numbers_below_0_and_more_than_a_figure(self):
        found = replies(2, "H 0\nH 1\nT 1\nH 1\nZ 0\nbehind 0\nbehind 2")
        self.assertEqual(found[5:], ["1 1 0 0 3, 1 -1 0 0 3, -1 -1 0 0 3, -1 1 0 0 3", "1 1 0 0 3, 1 -1 0 0 3, 1 1 0 0 3, 1 -1 0 0 3"])
        self.assertEqual(replies(1, "\n".join(["W"] * 12 + ["gates", "eighths", "like 4", "like 12"]))[12:], ["12", "0", "yes", "yes"])

    def test_no_lines_and_each_board_is_new(self):
        for wires in (1, 2, 3):
            self.assertEqual(repr(replies(wires, "")), "[]")
            self.assertEqual(replies(wires, "W\ngates"), ["done", "1"])
            self.assertEqual(replies(wires=wires, text="gates"), ["0"])

    def test_bad_lines_ahead_of_all_else(self):
        for line in NOT_REQUESTED:
            if "\n" not in line:
                for number, text in ((0, line + "\nundo"), (1, "undo\n" + line), (2, "H 9\nundo\n" + line + "\n" + line), (1, "W\n" + line + "\nno")):
                    with self.assertRaises(BadLine) as caught:
                        replies(2, text)
                    self.assertEqual(vars(caught.exception), {"number": number})

    def test_a_line_feed_at_the_end(self):
        for text, number in (("\n", 0), ("undo\n", 1), ("undo\n\nredo", 1), ("W\nW\n", 2)):
            with self.assertRaises(BadLine) as caught:
                replies(1, text)
            self.assertEqual(caught.exception.number, number)


if __name__ == "__main__":
    unittest.main()
