"""[15]: rungs.py, by all FLIPS and against another way to reckon."""

import itertools
import unittest

import drawn
import exact
import onewire
import parities
from eighthturns.circuits import circuit_table
from eighthturns.errors import NoPaper
from eighthturns.marks import is_marked, marked_of, marked_table
from eighthturns.rays import turned_ray
from eighthturns.readings import fewest_eighths
from eighthturns.rungs import (first_unkept, flip_of, flip_table, flips_kept, flips_put, is_marked_bar, is_rung_bar, led,
                               marked_bar, marked_led, quarters_many, rung_bar, rung_of, rung_of_marked, rungs_row, steered)
from eighthturns.tables import is_table, table_product

X, Z, H, S, T, W = [circuit_table((1, (gate,))) for gate in (("X", 0), ("Z", 0), ("H", 0), ("S", 0), ("T", 0), ("W",))]
HT = table_product(H, T)


def flips(n):
    return list(itertools.product(range(2 ** n), repeat=2))


def flip_values(n, flip):
    """The values of the TABLE of a FLIP, place by place."""
    x, z = flip
    return tuple(tuple(exact.number((-1) ** parities.parity(p, z) if row == p ^ x else 0) for p in range(2 ** n))
                 for row in range(2 ** n))


def flip_found(values):
    """The pair (turn, flip) of these values, by all there are; None."""
    n = len(values).bit_length() - 1
    for flip in flips(n):
        for turn in range(8):
            if onewire.turned(flip_values(n, flip), turn) == values:
                return (turn, flip)
    return None


def led_values(values, flip):
    own = flip_values(len(values).bit_length() - 1, flip)
    return exact.tables_product(exact.tables_product(values, own), exact.back(values))


def on_rung(values, rung):
    """By the words of the document alone."""
    if rung == 1:
        return flip_found(values) is not None
    return all(on_rung(led_values(values, flip), rung - 1) for flip in flips(len(values).bit_length() - 1))


def least_rung(table):
    return next((rung for rung in (1, 2, 3) if on_rung(exact.table_values(table), rung)), None)


def ladders(n, rung):
    return itertools.product(flips(n), repeat=rung - 1)


def bars(table, ladder):
    values = exact.table_values(table)
    for flip in ladder:
        values = led_values(values, flip)
    return flip_found(values) is None


def turned(table, many):
    return tuple(tuple(turned_ray(ray, many) for ray in row) for row in table)


def one_wire(seed):
    draw = drawn.rng(seed)
    words = ("", "W", "X", "Z", "H", "S", "T", "TS", "HT", "THS", "HTH", "THTH", "HTHTS", "TSHTHZ", "XHTHTHT")
    found = [circuit_table((1, tuple((word,) if word == "W" else (word, 0) for word in own))) for own in words]
    return found + [circuit_table(onewire.circuit(draw, draw.randint(0, 7), "HTSXW")) for _ in range(6)]


def two_wires(seed):
    draw = drawn.rng(seed)
    circuits = [(), (("X", 1), ("Z", 0)), (("CX", 0, 1),), (("CZ", 0, 1), ("H", 1)), (("T", 1),), (("H", 0), ("T", 0)),
                (("H", 0), ("T", 0), ("H", 0), ("T", 0)), (("T", 0), ("CX", 0, 1), ("T", 1), ("H", 0)), (("S", 0), ("CX", 1, 0), ("W",))]
    found = [circuit_table((2, gates)) for gates in circuits] + [steered(table) for table in (S, T, H)]
    found += [circuit_table(drawn.circuit(draw, 2, 5)) for _ in range(3)]
    return [table for table in found if max(ray[4] for row in table for ray in row) <= 4]


class Flips(unittest.TestCase):
    def test_tables(self):
        for n in (1, 2, 3):
            for flip in flips(n):
                table = flip_table(n, flip)
                self.assertTrue(is_table(table))
                self.assertEqual(exact.table_values(table), flip_values(n, flip))

    def test_which_flip_it_is(self):
        for n in (1, 2):
            for flip in flips(n):
                for turn in range(8):
                    self.assertEqual(flip_of(turned(flip_table(n, flip), turn)), (turn, flip))
        self.assertEqual(flip_of(turned(flip_table(3, (5, 3)), 6)), (6, (5, 3)))
        for table in one_wire(1) + two_wires(1):
            self.assertEqual(flip_of(table), flip_found(exact.table_values(table)))

    def test_put(self):
        for n in (1, 2):
            for one, other in itertools.product(flips(n), repeat=2):
                product = table_product(flip_table(n, one), flip_table(n, other))
                self.assertEqual(flips_put(one, other), flip_found(exact.table_values(product)))
        draw = drawn.rng(2)
        for _ in range(20):
            one, other = [(draw.randrange(8), draw.randrange(8)) for _ in range(2)]
            turn, flip = flips_put(one, other)
            self.assertEqual(table_product(flip_table(3, one), flip_table(3, other)), turned(flip_table(3, flip), turn))

    def test_led(self):
        for table in one_wire(3) + two_wires(3):
            for flip in flips(len(table) // 2):
                self.assertEqual(exact.table_values(led(table, flip)), led_values(exact.table_values(table), flip))

    def test_kept(self):
        for table in one_wire(4) + two_wires(4):
            n = len(table) // 2
            kept = tuple(flip for flip in flips(n) if flip_found(led_values(exact.table_values(table), flip)))
            self.assertEqual(flips_kept(table), kept)
            unkept = [flip for flip in flips(n) if flip not in kept]
            self.assertEqual(first_unkept(table), unkept[0] if unkept else None)


class Rungs(unittest.TestCase):
    def test_of_one_wire(self):
        seen = set()
        for table in one_wire(5):
            seen.add(rung_of(table))
            self.assertEqual(rung_of(table), least_rung(table))
            self.assertEqual(rung_of(table) is not None, fewest_eighths(table) <= 1)
            rungs = [least_rung(led(table, flip)) or 9 for flip in flips(1)]
            self.assertEqual(rungs_row(table), tuple(sum(own <= rung for own in rungs) for rung in (1, 2, 3)))
        self.assertEqual(seen, {1, 2, 3, None})

    def test_of_two_wires(self):
        seen = set()
        for table in two_wires(6):
            rungs = [rung_of(led(table, flip)) or 9 for flip in flips(2)]
            seen.add(rung_of(table))
            self.assertEqual(rungs_row(table), tuple(sum(own <= rung for own in rungs) for rung in (1, 2, 3)))
            kept = [flip_found(led_values(exact.table_values(table), flip)) is not None for flip in flips(2)]
            self.assertEqual(rung_of(table) in (1, 2), all(kept))
            self.assertEqual(rung_of(table) == 1, flip_found(exact.table_values(table)) is not None)
            self.assertEqual(rung_of(table) in (1, 2, 3), all(own <= 2 for own in rungs))
        self.assertEqual(seen, {1, 2, 3, None})

    def test_quarters_ahead_and_behind_leave_the_rung(self):
        draw = drawn.rng(7)
        for table in two_wires(7)[2:8]:
            quarter = circuit_table((2, tuple(draw.choice((("H", 0), ("H", 1), ("S", 0), ("S", 1), ("CX", 0, 1), ("CX", 1, 0), ("W",)))
                                              for _ in range(5))))
            rung = rung_of(table)
            for other in (table_product(quarter, table), table_product(table, quarter)):
                if max(ray[4] for row in other for ray in row) <= 4:
                    self.assertEqual(rung_of(other) or 9, max(2, rung or 9) if rung != 1 else rung_of(quarter))

    def test_how_many_are_on_rung_2(self):
        tables, keys = [circuit_table((1, ()))], set()
        for table in tables:
            for other in (H, S):
                after = table_product(other, table)
                key = onewire.like_key(exact.table_values(after))
                if key not in keys:
                    keys.add(key)
                    tables.append(after)
                    self.assertIn(rung_of(after), (1, 2))
        self.assertEqual(quarters_many(1), len(keys))
        self.assertEqual(quarters_many(2), 11520)
        self.assertEqual(quarters_many(3), 2 ** 15 * 3 * 15 * 63)
        wanted = 1
        for n in range(1, 41):
            wanted *= 2 * 4 ** n * (4 ** n - 1)
            self.assertEqual(quarters_many(n), wanted)

    def test_steered(self):
        for table in one_wire(8):
            wanted = exact.table_values(drawn.still(4))[:2]
            below = exact.table_values(table)
            nil = (exact.number(0),) * 2
            self.assertEqual(exact.table_values(steered(table)), wanted + tuple(nil + row for row in below))


class Bars(unittest.TestCase):
    def test_least_ladders_of_one_wire(self):
        for table in one_wire(9):
            for rung in (1, 2, 3):
                found = [ladder for ladder in ladders(1, rung) if bars(table, ladder)]
                self.assertEqual(bool(found), not on_rung(exact.table_values(table), rung))
                if found:
                    self.assertEqual(rung_bar(table, rung), found[0])
                else:
                    with self.assertRaises(NoPaper):
                        rung_bar(table, rung)
                for ladder in ladders(1, rung):
                    self.assertIs(is_rung_bar(table, rung, ladder), ladder in found)

    def test_least_ladders_of_two_wires(self):
        for table in two_wires(10)[2:]:
            for rung in (1, 2, 3):
                ahead = itertools.islice(ladders(2, rung), 40)
                found = [ladder for ladder in ahead if bars(table, ladder)]
                if (rung_of(table) or 9) <= rung:
                    self.assertEqual(found, [])
                    with self.assertRaises(NoPaper):
                        rung_bar(table, rung)
                else:
                    ladder = rung_bar(table, rung)
                    self.assertTrue(bars(table, ladder))
                    self.assertIs(is_rung_bar(table, rung, ladder), True)
                    self.assertTrue(not found or found[0] == ladder)
                    self.assertTrue(found or list(ladders(2, rung)).index(ladder) >= 40)

    def test_higher_rungs(self):
        draw = drawn.rng(11)
        seen = set()
        for table in one_wire(11):
            for rung in (4, 5):
                for _ in range(8):
                    ladder = tuple(draw.choice(flips(1)) for _ in range(rung - 1))
                    seen.add(bars(table, ladder))
                    self.assertIs(is_rung_bar(table, rung, ladder), bars(table, ladder))
        self.assertEqual(seen, {True, False})
        deep = circuit_table((2, (("H", 0), ("T", 0), ("CX", 0, 1), ("H", 1), ("T", 1), ("H", 1), ("T", 1))))
        ladder = ((1, 0), (2, 1), (3, 3), (1, 2))
        self.assertIs(is_rung_bar(deep, 5, ladder), bars(deep, ladder))

    def test_things_of_every_kind_are_none(self):
        self.assertIs(is_rung_bar(T, 2, ((1, 0),)), True)
        more = [[(1, 0)], ([1, 0],), (1, 0), ((True, 0),), ((1, False),), ((1, 0), (1, 0)), ((2, 0),), ((1, -1),), ((1, 0, 0),), ((1,),),
                (("1", 0),), ((None, 0),), (((1, 0),),), ((0, 0),), ((0, 1),), ((1, 2),), ()]
        for thing in drawn.things() + more:
            self.assertIs(is_rung_bar(T, 2, thing), False, thing)
            self.assertIs(is_rung_bar(H, 2, thing), False, thing)
            self.assertIs(is_rung_bar(T, 1, thing), repr(thing) == "()", thing)
            self.assertIs(is_rung_bar(X, 1, thing), False, thing)
            self.assertIs(is_marked_bar((0, (1,), 0, (1,)), 2, thing), False, thing)
            self.assertIs(is_marked_bar((0, (1,), 0, (1,)), 1, thing), repr(thing) == "()", thing)
        self.assertIs(is_marked_bar((0, (1,), 0, (1,)), 2, ((1, 0),)), True)


class Marked(unittest.TestCase):
    def maps(self, seed, sizes=(1, 2, 3, 4, 5), many=5):
        draw = drawn.rng(seed)
        found = []
        for n in sizes:
            for at in range(many):
                words = ("W X CX CX T T S Z CZ", "W X CX S Z CZ", "W X Z", "W X Z CZ", "CX CX T S")[at % 5]
                marked = marked_of(parities.circuit(draw, n, 8, words))
                zero = draw.choice(parities.zero_marks(n))
                found.append(marked[:3] + (tuple((mark + own) % 8 for mark, own in zip(marked[3], zero)),))
        return found

    def flip_led(self, n, flip):
        return tuple((place ^ flip[0], 4 * parities.parity(place, flip[1])) for place in range(2 ** n))

    def led_about(self, led_by, flip):
        n = len(led_by).bit_length() - 1
        return parities.one_then(parities.one_then(parities.back(led_by), self.flip_led(n, flip)), led_by)

    def is_flip(self, led_by):
        """Whether it is a FLIP, but for one turn of all."""
        n = len(led_by).bit_length() - 1
        (x, turn), z = led_by[0], 0
        for wire in range(n):
            bit = 2 ** (n - 1 - wire)
            z += bit * ((led_by[bit][1] - turn) % 8 == 4)
        return led_by == tuple((place, (eighths + turn) % 8) for place, eighths in self.flip_led(n, (x, z)))

    def test_led(self):
        draw = drawn.rng(12)
        for marked in self.maps(12):
            n = len(marked[1])
            for flip in [(0, 0)] + [(draw.randrange(2 ** n), draw.randrange(2 ** n)) for _ in range(4)]:
                found = marked_led(marked, flip)
                self.assertIs(is_marked(found), True)
                self.assertEqual(parities.all_led(found), self.led_about(parities.all_led(marked), flip))
                self.assertEqual(marked_led(marked, flip), found)
                if n <= 2:
                    self.assertEqual(marked_table(found), led(marked_table(marked), flip))

    def test_rungs_and_bars(self):
        seen = set()
        for marked in self.maps(13):
            n, made = len(marked[1]), parities.all_led(marked)
            unkept = [flip for flip in flips(n) if not self.is_flip(self.led_about(made, flip))][:1] if n < 5 else self.some(made)
            rung = 1 if self.is_flip(made) else 3 if unkept else 2
            seen.add((n > 3, rung))
            self.assertEqual(rung_of_marked(marked), rung)
            if n <= 2:
                self.assertEqual(rung_of(marked_table(marked)), rung)
            for own in (1, 2):
                if rung <= own:
                    with self.assertRaises(NoPaper):
                        marked_bar(marked, own)
                else:
                    ladder = marked_bar(marked, own)
                    self.assertEqual(ladder, () if own == 1 else (unkept[0],))
                    self.assertIs(is_marked_bar(marked, own, ladder), True)
        self.assertEqual(seen, {(far, rung) for far in (False, True) for rung in (1, 2, 3)})

    def some(self, made):
        """The least FLIP that is not kept, of those with z 0 and some more."""
        ahead = sorted([(x, 0) for x in range(32)] + [(x, z) for x in (0, 1, 7) for z in range(0, 32, 5)])
        return [flip for flip in ahead if not self.is_flip(self.led_about(made, flip))][:1]

    def test_which_bar(self):
        draw = drawn.rng(14)
        for marked in self.maps(14, (1, 2, 3, 5), 4):
            n, made = len(marked[1]), parities.all_led(marked)
            for rung in (1, 2, 3):
                for _ in range(6):
                    ladder = tuple((draw.randrange(2 ** n), draw.randrange(2 ** n)) for _ in range(rung - 1))
                    last = made
                    for flip in ladder:
                        last = self.led_about(last, flip)
                    self.assertIs(is_marked_bar(marked, rung, ladder), not self.is_flip(last))
                    self.assertTrue(rung < 3 or self.is_flip(last))
                    self.assertIs(is_marked_bar(marked, rung, list(ladder)), False)
                    self.assertIs(is_marked_bar(marked, rung, ladder + ((0, 2 ** n),)), False)


if __name__ == "__main__":
    unittest.main()
