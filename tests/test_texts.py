"""[21]: texts.py: what is told as text, and what is read."""

import unittest

import drawn
from eighthturns.circuits import circuit_table, is_circuit
from eighthturns.deeds import are_deeds
from eighthturns.errors import BadLine
from eighthturns.tables import is_table, table_power
from eighthturns.texts import circuit_read, circuit_text, deeds_read, deeds_text, table_read, table_text

ZERO, ONE, HALF, LESS = drawn.ZERO, drawn.ONE, drawn.HALF, drawn.LESS
STILL_TEXT = "1,0,0,0,0 0,0,0,0,0\n0,0,0,0,0 1,0,0,0,0"
LONG = [10 ** many for many in (1, 17, 18, 19, 36, 399, 1000, 4000, 5000)]


class Told(unittest.TestCase):
    def bad(self, number, function, text):
        with self.assertRaises(BadLine) as caught:
            function(text)
        self.assertEqual(caught.exception.number, number, repr(text))


class Tables(Told):
    def test_there_and_back(self):
        draw = drawn.rng(1)
        for rows in range(2, 9):
            for most, k in ((0, 0), (3, 2), (10 ** 6, 12), (10 ** 400, 10 ** 30)):
                table = drawn.table(draw, rows, most, 0) if k > 12 else drawn.table(draw, rows, most, k)
                text = table_text(table)
                lines = [" ".join(",".join(str(number) for number in ray) for ray in row) for row in table]
                self.assertEqual(text, "\n".join(lines))
                self.assertEqual(repr(table_read(text)), repr(table))

    def test_what_the_package_returned(self):
        for table in (circuit_table((1, (("H", 0), ("T", 0), ("H", 0)))), table_power(((ONE, HALF), (LESS, (3, 1, 4, 1, 5))), 60)):
            self.assertEqual(table_read(table_text(table)), table)

    def test_not_upright_ones_too(self):
        self.assertEqual(table_read("7,0,0,0,0 0,0,0,0,0\n0,0,0,0,0 0,0,0,0,0"), (((7, 0, 0, 0, 0), ZERO), (ZERO, ZERO)))
        self.assertEqual(table_read(STILL_TEXT), ((ONE, ZERO), (ZERO, ONE)))

    def test_words_that_are_no_rays(self):
        good = STILL_TEXT.split("\n")
        for word in ("", "1", "1,0,0,0", "1,0,0,0,0,0", "1,0,0,0,-1", "1,0,1,0,1", "2,0,0,0,2", "0,0,0,0,1", "1,1,1,1,1", "01,0,0,0,0",
                     "-0,0,0,0,0", "+1,0,0,0,0", "1,0,0,0,00", "1,0,0,0,", ",0,0,0,0", "1, 0,0,0,0", "1;0;0;0;0", "a,0,0,0,0",
                     "1.0,0,0,0,0", "--1,0,0,0,0", "-,0,0,0,0", "1_0,0,0,0,0", "1,0,0,0,0x", "\u0661,0,0,0,0", "\u00b2,0,0,0,0", "1e3,0,0,0,0",
                     "1-,0,0,0,0", "0x1,0,0,0,0", "1,0,0,0,0,", "(1,0,0,0,0)", "\t1,0,0,0,0", "1,0,0,0,0\r"):
            for place in range(4):
                words = [good[0].split(" "), good[1].split(" ")]
                words[place // 2][place % 2] = word
                self.bad(place // 2, table_read, "\n".join(" ".join(line) for line in words))

    def test_rows_and_blanks(self):
        row, long_row = "1,0,0,0,0 0,0,0,0,0", "1,0,0,0,0 0,0,0,0,0 0,0,0,0,0"
        for number, text in ((0, ""), (0, "\n"), (0, "\n" + STILL_TEXT), (1, row), (1, row + "\n"), (2, STILL_TEXT + "\n"),
                             (2, STILL_TEXT + "\n" + row), (2, STILL_TEXT + "\n" + row + "\n" + row), (0, "1,0,0,0,0"),
                             (0, "1,0,0,0,0\n1,0,0,0,0"), (1, row + "\n1,0,0,0,0"), (1, row + "\n" + long_row), (1, long_row + "\n" + row),
                             (2, long_row + "\n" + long_row), (3, "\n".join([long_row] * 4)), (0, " " + STILL_TEXT),
                             (0, STILL_TEXT.replace("\n", " \n")), (0, STILL_TEXT.replace(" ", "  ", 1)), (1, STILL_TEXT + " "),
                             (1, row + "\n " + row), (1, row + "\n\n" + row), (0, "wires 1"), (0, " "), (0, row + "\tx\n" + row)):
            self.bad(number, table_read, text)

    def test_the_first_bad_line_counts(self):
        self.bad(0, table_read, "1,0,0,0,0\nno")
        self.bad(1, table_read, "1,0,0,0,0 0,0,0,0,0 0,0,0,0,0\nno\nno")
        self.bad(1, table_read, "1,0,0,0,0 0,0,0,0,0\n1,0,0,0,0 0,0,0,0,0 0,0,0,0,0\nno")


class Deeds(Told):
    def test_there_and_back(self):
        draw = drawn.rng(2)
        for length in (0, 1, 2, 9, 60):
            for many in (2, 8, 10 ** 15):
                deeds = drawn.deeds(draw, many, length)
                text = deeds_text(deeds)
                self.assertEqual(text, "\n".join(" ".join(str(part) for part in deed) for deed in deeds))
                self.assertEqual(repr(deeds_read(text)), repr(deeds))
                self.assertTrue(are_deeds(many, deeds_read(text)))

    def test_none_and_its_text(self):
        self.assertEqual(repr(deeds_text(())), "''")
        self.assertEqual(repr(deeds_read("")), "()")

    def test_very_long_numbers(self):
        for number in LONG:
            figures = "1" + "0" * (len_of(number) - 1)
            self.assertEqual(deeds_read("turn " + figures), (("turn", number),))
            self.assertEqual(deeds_text((("swap", number - 1, number),)), "swap " + nines(number) + " " + figures)
            self.assertEqual(table_text((((-number, 0, 0, 0, number),) * 2,)), " ".join(["-" + figures + ",0,0,0," + figures] * 2))
            self.assertEqual(table_read("\n".join(["-" + nines(number) + ",0,0,0,1 0,0,0,0,0"] * 2)), (((1 - number, 0, 0, 0, 1), ZERO),) * 2)
            self.assertEqual(deeds_read("mix " + nines(number) + " " + figures), (("mix", number - 1, number),))
            self.bad(0, deeds_read, "mix " + figures + " " + nines(number))
            self.bad(0, deeds_read, "turn 0" + figures)

    def test_lines_that_are_not_as_told(self):
        for line in ("turn", "turn -1", "turn 0 1", "turn 00", "turn +1", "turn -0", "turn 1.0", "turn x", "swap 0", "swap 1 0", "swap 1 1",
                     "swap 0 1 2", "swap -1 0", "mix 1 0", "mix 2 2", "mix 0 01", "mix 0", "mix -2 -1", "Turn 0", "TURN 0", "spin 0", " turn 0",
                     "turn 0 ", "turn  0", "turn\t0", "", " ", "0", "turn 0;", "mix 0,1", "mix 0 1 ", "mix  0 1", "turn \u0661", "turn 1\r", "None"):
            self.bad(0, deeds_read, line + "\nturn 0")
            self.bad(1, deeds_read, "turn 0\n" + line)
            self.bad(2, deeds_read, "turn 0\nmix 0 1\n" + line + "\nno")

    def test_a_line_feed_at_the_end(self):
        self.bad(0, deeds_read, "\n")
        self.bad(1, deeds_read, "turn 0\n")
        self.bad(1, deeds_read, "turn 0\n\nturn 0")


def len_of(number):
    many = 0
    while number:
        number //= 10
        many += 1
    return many


def nines(number):
    return "9" * (len_of(number) - 1)


class Circuits(Told):
    def test_there_and_back(self):
        draw = drawn.rng(3)
        for n in (1, 2, 3, 10):
            for length in (0, 1, 5, 60):
                circuit = drawn.circuit(draw, n, length)
                text = circuit_text(circuit)
                lines = ["wires " + str(n)] + [" ".join(str(part) for part in gate) for gate in circuit[1]]
                self.assertEqual(text, "\n".join(lines))
                self.assertEqual(repr(circuit_read(text)), repr(circuit))
                self.assertIs(is_circuit(circuit_read(text)), True)

    def test_each_word(self):
        gates = (("H", 2), ("T", 1), ("S", 0), ("Z", 2), ("X", 1), ("CX", 2, 0), ("CCX", 2, 0, 1), ("CZ", 0, 2), ("W",))
        text = "wires 3\nH 2\nT 1\nS 0\nZ 2\nX 1\nCX 2 0\nCCX 2 0 1\nCZ 0 2\nW"
        self.assertEqual(circuit_text((3, gates)), text)
        self.assertEqual(circuit_read(text), (3, gates))

    def test_many_wires(self):
        for number in LONG:
            figures = "1" + "0" * (len_of(number) - 1)
            self.assertEqual(circuit_read("wires " + figures + "\nH " + nines(number)), (number, (("H", number - 1),)))
            self.bad(1, circuit_read, "wires " + figures + "\nH " + figures)

    def test_the_first_line(self):
        for line in ("", "wires", "wires 0", "wires -1", "wires 01", "wires +1", "wires 1 1", "wire 1", "Wires 1", " wires 1", "wires 1 ",
                     "wires  1", "1", "H 0", "wires x", "wires -0", "wires 1.0", "wires \u0661", "wires\t1"):
            self.bad(0, circuit_read, line)
            self.bad(0, circuit_read, line + "\nH 0")

    def test_gates_that_are_none(self):
        for line in ("", " ", "H", "H 2", "H -1", "H 0 1", "H 00", "H +0", "H -0", "CX 0", "CX 0 0", "CX 0 2", "CX 1 1", "CX 0 1 1", "CCX 0 1 1",
                     "CCX 0 1 2", "W 0", "W ", " W", "h 0", "CY 0 1", "wires 2", "H  0", "CZ 1 1", "T 0 ", "turn 0", "None", "T x"):
            self.bad(1, circuit_read, "wires 2\n" + line)
            self.bad(2, circuit_read, "wires 2\nW\n" + line + "\nno")
        self.bad(1, circuit_read, "wires 1\n")


class Spoiled(Told):
    def spoiled(self, draw, text):
        """The text with some signs taken out, put in or exchanged."""
        for _ in range(draw.randint(1, 2)):
            at = draw.randint(0, len(text))
            sign = draw.choice("0123456789-+, \n.HTCXWmixswap\t")
            text = text[:at] + draw.choice(("", sign, sign + text[at:at + 1])) + text[at + draw.randint(0, 1):]
        return text

    def test_what_is_read_has_just_this_text(self):
        draw = drawn.rng(4)
        kinds = ((table_read, table_text, lambda: drawn.table(draw, draw.randint(2, 3), 3, 1)),
                 (deeds_read, deeds_text, lambda: drawn.deeds(draw, 12, draw.randint(0, 4))),
                 (circuit_read, circuit_text, lambda: drawn.circuit(draw, 3, draw.randint(0, 4))))
        for read, told, make in kinds:
            found = {True: 0, False: 0}
            for _ in range(1500):
                text = self.spoiled(draw, told(make()))
                try:
                    self.assertEqual(told(read(text)), text)
                    found[True] += 1
                except BadLine as error:
                    # The lines ahead of the bad one may stand so in some text.
                    lines = [] if text == "" else text.split("\n")
                    self.assertTrue(0 <= error.number <= len(lines))
                    self.bad_from(error.number, read, lines)
                    found[False] += 1
            self.assertTrue(min(found.values()) > 100, found)

    def bad_from(self, number, read, lines):
        """That the lines to this one are bad there, and not ahead of it."""
        if number < len(lines) and lines[:number + 1] != [""]:
            self.bad(number, read, "\n".join(lines[:number + 1]))
        if number > 0 and read is not table_read:
            read("\n".join(lines[:number]))


if __name__ == "__main__":
    unittest.main()
