"""[10]: readings.py, against another way to reckon."""

import itertools
import unittest

import drawn
import exact
import onewire
from eighthturns.circuits import circuit_table, is_circuit
from eighthturns.errors import TooMany
from eighthturns.rays import turned_ray
from eighthturns.readings import (axes_power, axes_table, circuit_of_reading, eighths_saved, fewest_eighths, is_quarter,
                                  is_reading, quarter_tables, reading_back, reading_of, reading_put, reading_table,
                                  shortest_word, words_of)
from eighthturns.tables import is_table, still_table, table_product

ZERO, ONE, HALF, LESS = drawn.ZERO, drawn.ONE, drawn.HALF, drawn.LESS
QUARTERS = quarter_tables()
BARE = still_table(2)
TURN = circuit_table((1, (("T", 0),)))


def readings(seed, lengths=(0, 1, 2, 5, 30, 99, 200)):
    draw = drawn.rng(seed)
    return [onewire.reading(draw, length, QUARTERS) for length in lengths for _ in range(4)]


def eighths_in(reading):
    return len(reading[1]) + reading[0]


def small_readings(most):
    """All READINGS of at most so many steps, but of the rests just every fifth."""
    return [(first, steps, rest) for first in (False, True) for length in range(most + 1)
            for steps in itertools.product((0, 1), repeat=length) for rest in QUARTERS[::5]]


class Quarters(unittest.TestCase):
    def test_all_that_is_made_and_no_more(self):
        self.assertEqual(len(QUARTERS), 192)
        self.assertEqual(list(QUARTERS), sorted(set(QUARTERS)))
        self.assertTrue(all(is_table(table) for table in QUARTERS))
        self.assertEqual({exact.table_values(table) for table in QUARTERS}, onewire.quarter_values())

    def test_which_are_judged_to_be_such(self):
        for table in QUARTERS:
            self.assertIs(is_quarter(table), True)
            self.assertIs(is_quarter(table_product(TURN, table)), False)
            self.assertIs(is_quarter([list(row) for row in table]), False)
            self.assertIs(is_quarter((table[0], tuple(turned_ray(ray, 1) for ray in table[1]))), False)
            self.assertIs(is_quarter((table[0], table[0])), False)

    def test_things_of_every_kind_are_none(self):
        far = (1, 0, 0, 0, 10 ** 18)
        more = [((ONE, ZERO), (ZERO, (True, 0, 0, 0, 0))), ((ONE, ZERO), (ZERO, (1, 0, 0, 0, False))), drawn.still(3),
                drawn.still(4), ((ONE, ONE), (ZERO, ONE)), ((far, far), (far, far)), ((ONE, far), (far, ONE)), (ONE, ZERO),
                ((ONE, ZERO), [ZERO, ONE]), ((ZERO, ZERO), (ZERO, ZERO)), (((1, 0, 0, 0, 0), (2, 0, 0, 0, 2)),) * 2,
                circuit_table((1, (("H", 0), ("T", 0), ("H", 0)))), BARE + BARE, (BARE, BARE)]
        for thing in drawn.things() + more:
            self.assertIs(is_quarter(thing), False, thing)


class Shapes(unittest.TestCase):
    def test_readings_are_readings(self):
        for reading in readings(1) + [(True, (0, 1) * 2000, BARE)]:
            self.assertIs(is_reading(reading), True)

    def test_things_of_every_kind_are_none(self):
        fine = (True, (0, 1), BARE)
        self.assertIs(is_reading(fine), True)
        for first in (0, 1, None, "True", (), (True,), [True]):
            self.assertIs(is_reading((first,) + fine[1:]), False)
        for steps in ([0, 1], (0, 2), (0, -1), (True, 0), (False,), (None,), ("0",), "01", ((0,),), None, 0, (0, [1])):
            self.assertIs(is_reading((True, steps, BARE)), False)
        for rest in drawn.things() + [TURN, [list(row) for row in BARE], list(BARE), None, drawn.still(3), BARE[0]]:
            self.assertIs(is_reading((True, (0,), rest)), False)
        for thing in drawn.things() + [list(fine), fine[:2], fine + (0,), (fine,), BARE, (False, BARE, ())]:
            self.assertIs(is_reading(thing), False, thing)


class Readings(unittest.TestCase):
    def test_the_table_of_a_reading(self):
        for reading in readings(2) + small_readings(2):
            table = reading_table(reading)
            self.assertTrue(is_table(table))
            self.assertEqual(exact.table_values(table), onewire.values_of_reading(reading))

    def test_the_reading_of_a_table(self):
        for reading in readings(3) + small_readings(2):
            self.assertEqual(repr(reading_of(reading_table(reading))), repr(reading))

    def test_each_table_has_one(self):
        for circuit in onewire.state_tables(4):
            reading = reading_of(circuit_table(circuit))
            self.assertIs(is_reading(reading), True)
            self.assertEqual(onewire.values_of_reading(reading), exact.circuit_values(circuit))

    def test_no_two_have_one_table(self):
        found = [reading_table(reading) for reading in small_readings(3)]
        self.assertEqual(len(set(found)), len(found))

    def test_without_steps(self):
        for rest in QUARTERS:
            self.assertEqual(reading_of(rest), (False, (), rest))
            self.assertEqual(reading_of(table_product(TURN, rest)), (True, (), rest))

    def test_a_power_of_110(self):
        draw = drawn.rng(5)
        reading = (True, tuple(draw.randrange(2) for _ in range(218)), QUARTERS[3])
        table = reading_table(reading)
        self.assertEqual(max(ray[4] for row in table for ray in row), 110)
        self.assertEqual(reading_of(table), reading)

    def test_put(self):
        for one, other in zip(readings(6), readings(7)):
            put = reading_put(one, other)
            self.assertIs(is_reading(put), True)
            wanted = exact.tables_product(onewire.values_of_reading(one), onewire.values_of_reading(other))
            self.assertEqual(onewire.values_of_reading(put), wanted)

    def test_back(self):
        for reading in readings(8):
            back = reading_back(reading)
            self.assertIs(is_reading(back), True)
            self.assertEqual(onewire.values_of_reading(back), exact.back(onewire.values_of_reading(reading)))
            self.assertEqual(reading_put(reading, back), (False, (), BARE))
            self.assertEqual(reading_put(back, reading), (False, (), BARE))


class Eighths(unittest.TestCase):
    def test_as_many_as_the_reading_has(self):
        for reading in readings(9) + small_readings(2):
            self.assertEqual(fewest_eighths(reading_table(reading)), eighths_in(reading))

    def test_the_fewest_by_search(self):
        # All TABLES of so many T, of like ones just one, from the quarters on.
        quarters = {onewire.like_key(table) for table in onewire.quarter_values()}
        levels = [quarters]
        for _ in range(2):
            turned = {exact.tables_product(onewire.GATE_VALUES["T"], table) for table in levels[-1]}
            levels.append({onewire.like_key(exact.tables_product(one, other)) for one in quarters for other in turned})
        self.assertEqual([len(level - set().union(*levels[:at])) for at, level in enumerate(levels)], [24, 72, 144])
        draw = drawn.rng(10)
        for _ in range(60):
            table = circuit_table(onewire.circuit(draw, draw.randint(0, 9), "HTS"))
            key = onewire.like_key(exact.table_values(table))
            found = [at for at, level in enumerate(levels) if key in level]
            self.assertEqual(min(fewest_eighths(table), 3), found[0] if found else 3)

    def test_saved(self):
        for circuit in onewire.state_tables(11):
            eighths, many = fewest_eighths(circuit_table(circuit)), [gate[0] for gate in circuit[1]].count("T")
            self.assertEqual(eighths_saved(circuit), many - eighths)
            self.assertTrue(eighths_saved(circuit) >= 0 and eighths_saved(circuit) % 2 == 0)
        for words, wanted in (("TT", 2), ("THT", 0), ("THHT", 2), ("T" * 7, 6), ("", 0), ("TXTX", 2), ("TSTZHTW", 2)):
            circuit = (1, tuple((word,) if word == "W" else (word, 0) for word in words))
            self.assertEqual(eighths_saved(circuit), wanted)

    def test_circuits_of_readings(self):
        for reading in readings(12) + small_readings(1) + [(False, (), rest) for rest in QUARTERS]:
            circuit = circuit_of_reading(reading)
            self.assertTrue(is_circuit(circuit) and circuit[0] == 1)
            self.assertEqual(exact.circuit_values(circuit), onewire.values_of_reading(reading))
            self.assertEqual([gate[0] for gate in circuit[1]].count("T"), eighths_in(reading))
            self.assertEqual(circuit_of_reading(reading), circuit)


class Axes(unittest.TestCase):
    def wanted(self, table):
        """The nine values, straight from the definition."""
        back, half = exact.back(table), exact.power_of_root(-2)
        i, less = exact.power_of_w(2), exact.power_of_w(6)
        nil = exact.number(0)
        axes = (onewire.GATE_VALUES["X"], ((nil, less), (i, nil)), onewire.GATE_VALUES["Z"])
        rows = []
        for one in axes:
            found = [exact.tables_product(exact.tables_product(one, table), exact.tables_product(other, back))
                     for other in axes]
            rows.append(tuple(exact.times(half, exact.plus(own[0][0], own[1][1])) for own in found))
        return tuple(rows)

    def test_tables_and_powers(self):
        for reading in readings(13) + small_readings(1):
            table = reading_table(reading)
            axes = axes_table(table)
            self.assertTrue(is_table(axes) and len(axes) == 3)
            self.assertTrue(all(ray[2] == 0 and ray[1] == -ray[3] for row in axes for ray in row))
            self.assertEqual(exact.table_values(axes), self.wanted(exact.table_values(table)))
            self.assertEqual(axes_power(table), max(ray[4] for row in axes for ray in row))
            self.assertEqual(axes_power(table), eighths_in(reading))

    def test_like_ones_turn_alike(self):
        for reading in readings(14, (0, 3)):
            table = reading_table(reading)
            for many in range(8):
                turned = tuple(tuple(turned_ray(ray, many) for ray in row) for row in table)
                self.assertEqual(axes_table(turned), axes_table(table))


class Words(unittest.TestCase):
    @classmethod
    def setUpClass(cls):
        cls.by_key = {}
        for length in range(7):
            for parts in itertools.product("HST", repeat=length):
                key = onewire.like_key(onewire.values_of_word("".join(parts)))
                cls.by_key.setdefault(key, []).append("".join(parts))

    def found(self, table):
        return self.by_key.get(onewire.like_key(exact.table_values(table)), [])

    def tables(self, seed, lengths):
        draw = drawn.rng(seed)
        return [circuit_table(onewire.circuit(draw, length, "HSTW")) for length in lengths]

    def test_all_words(self):
        for table in self.tables(15, (0, 1, 2, 3, 4, 5, 6, 9)) + [BARE, circuit_table((1, (("Z", 0),)))]:
            for length in range(7):
                wanted = [word for word in self.found(table) if len(word) == length]
                self.assertEqual(words_of(table, length), sorted(wanted))

    def test_some_hundred_tables(self):
        wanted = 0
        for table in self.tables(18, (0, 1, 2, 4, 6, 7, 9, 12, 20, 40) * 30):
            words = self.found(table)
            self.assertEqual(words_of(table, 6), sorted(word for word in words if len(word) == 6))
            if words:
                self.assertEqual(shortest_word(table), min(words, key=lambda word: (len(word), word)))
            else:
                wanted += 1
                with self.assertRaises(TooMany):
                    shortest_word(table)
        self.assertTrue(20 < wanted < 200, wanted)

    def test_none_and_the_empty_one(self):
        self.assertEqual(words_of(BARE, 0), [""])
        self.assertEqual(words_of(TURN, 0), [])
        self.assertEqual(words_of(tuple(tuple(turned_ray(ray, 3) for ray in row) for row in BARE), 0), [""])

    def test_the_shortest(self):
        for length in range(7):
            words = [min(own, key=lambda word: (len(word), word)) for own in self.by_key.values()]
            words = sorted(word for word in words if len(word) == length)
            self.assertTrue(words)
            for word in words[::len(words) // 5 + 1]:
                table = circuit_table((1, tuple((letter, 0) for letter in word) + (("W",),) * length))
                self.assertEqual(shortest_word(table), word)

    def test_seven_letters_are_too_many(self):
        for table in self.tables(16, (12, 20, 40)):
            if not self.found(table):
                with self.assertRaises(TooMany):
                    shortest_word(table)
        draw = drawn.rng(17)
        seen = 0
        while seen < 3:
            word = "".join(draw.choices("HST", k=7))
            if onewire.like_key(onewire.values_of_word(word)) not in self.by_key:
                seen += 1
                with self.assertRaises(TooMany):
                    shortest_word(circuit_table((1, tuple((letter, 0) for letter in word))))


if __name__ == "__main__":
    unittest.main()
