"""[5]: tables.py, against another way to reckon."""

import itertools
import unittest

import drawn
import exact
from eighthturns.errors import NoPaper
from eighthturns.deeds import deeds_table
from eighthturns.rays import eighth_of, is_ray, size_of, turned_ray
from eighthturns.tables import (beside_tables, determinant, is_slant, is_table, is_upright, like_turn, made_of, slant_of,
                                still_table, table_mirrored, table_power, table_product, twin_table)

ZERO, ONE, HALF, LESS = drawn.ZERO, drawn.ONE, drawn.HALF, drawn.LESS
BENT = ((ONE, ONE), (ZERO, ONE))


def uprights(seed, sizes=(2, 3, 4, 5, 8), length=25):
    draw = drawn.rng(seed)
    return [deeds_table(many, drawn.deeds(draw, many, length)) for many in sizes for _ in range(3)]


def any_tables(seed, sizes=(2, 3, 4, 8)):
    draw = drawn.rng(seed)
    big = [drawn.table(draw, 2, 10 ** 6, 12), drawn.table(draw, 8, 10 ** 6, 12)]
    zeros = [tuple([(ZERO,) * many] * many) for many in (2, 8)]
    return [drawn.table(draw, many) for many in sizes for _ in range(3)] + big + zeros + uprights(seed)


def nearly_upright(seed):
    """Upright TABLES with one RAY exchanged."""
    draw = drawn.rng(seed)
    found = []
    for table in uprights(seed, (2, 3, 4, 6)):
        rows = [list(row) for row in table]
        i, j = draw.randrange(len(rows)), draw.randrange(len(rows))
        rows[i][j] = turned_ray(rows[i][j], draw.randint(1, 7)) if rows[i][j] != ZERO else HALF
        found.append(tuple(tuple(row) for row in rows))
    return found


def slants(table):
    """All SLANTS, straight from their definition."""
    columns = exact.columns(exact.table_values(table))
    return [(i, j) for i in range(len(columns)) for j in range(i, len(columns))
            if exact.product(columns[i], columns[j]) != exact.number(1 if i == j else 0)]


class Shapes(unittest.TestCase):
    def test_tables_are_tables(self):
        for table in any_tables(1) + [BENT, drawn.MIXED, drawn.still(2), drawn.still(20)]:
            self.assertIs(is_table(table), True)
        far = (10 ** 30, 1, 0, 0, 10 ** 6)
        self.assertIs(is_table(((far, far), (far, ZERO))), True)

    def test_things_of_every_kind_are_none(self):
        for thing in drawn.things() + [ONE, (ONE, ZERO), ((ONE,) * 2,) * 3, ((ONE,) * 3,) * 2, (((ONE, ZERO),) * 2,) * 2]:
            self.assertIs(is_table(thing), False, thing)
        for part in drawn.things():
            self.assertIs(is_table(((ONE, ZERO), (ZERO, part))), False, part)
            self.assertIs(is_table(((ONE, ZERO), part)), False, part)


class Products(unittest.TestCase):
    def assert_is(self, table, values):
        self.assertTrue(is_table(table))
        self.assertEqual(exact.table_values(table), values)

    def test_still(self):
        for rows in range(2, 9):
            self.assertEqual(still_table(rows), drawn.still(rows))

    def test_products(self):
        tables = any_tables(2)
        for one, other in itertools.product(tables, tables):
            if len(one) == len(other) and len(one) < 8 or one == other:
                wanted = exact.tables_product(exact.table_values(one), exact.table_values(other))
                self.assert_is(table_product(one, other), wanted)

    def test_other_comes_first(self):
        turned = ((ONE, ZERO), (ZERO, (0, 1, 0, 0, 0)))
        state = (ONE, ZERO)
        product = table_product(turned, drawn.MIXED)
        self.assertEqual(made_of(product, state), made_of(turned, made_of(drawn.MIXED, state)))
        self.assertNotEqual(product, table_product(drawn.MIXED, turned))

    def test_powers(self):
        for table in any_tables(3, (2, 3)):
            wanted = exact.still_values(len(table))
            for many in range(5):
                self.assert_is(table_power(table, many), wanted)
                wanted = exact.tables_product(wanted, exact.table_values(table))
        for rows in (2, 8):
            self.assertEqual(table_power(still_table(rows), 200), still_table(rows))
            self.assertEqual(table_power(drawn.table(drawn.rng(3), rows), 0), still_table(rows))

    def test_the_greatest_power(self):
        for table in uprights(4, (2, 8), 12)[2:4]:
            half = table_power(table, 100)
            self.assertEqual(table_power(table, 200), table_product(half, half))

    def test_made(self):
        draw = drawn.rng(5)
        for table in any_tables(5):
            state = tuple(drawn.ray(draw) for _ in table)
            made = made_of(table, state)
            self.assertTrue(all(is_ray(ray) for ray in made))
            self.assertEqual(exact.values(made), exact.through(exact.table_values(table), exact.values(state)))
            self.assertEqual(made_of(table, (ZERO,) * len(table)), (ZERO,) * len(table))
            self.assertEqual(made_of(still_table(len(table)), state), state)

    def test_mirrored_and_twin(self):
        for table in any_tables(6):
            values = exact.table_values(table)
            self.assert_is(table_mirrored(table), exact.back(values))
            self.assert_is(twin_table(table), tuple(tuple(exact.twin(part) for part in row) for row in values))
            self.assertEqual(table_mirrored(table_mirrored(table)), table)
            self.assertEqual(twin_table(twin_table(table)), table)

    def test_beside(self):
        draw = drawn.rng(7)
        for rows, others in ((2, 2), (2, 3), (3, 2), (2, 4), (4, 2)):
            one, other = drawn.table(draw, rows), drawn.table(draw, others)
            found = beside_tables(one, other)
            self.assertTrue(is_table(found))
            self.assertEqual(len(found), rows * others)
            for i, j, k, place in itertools.product(range(rows), range(rows), range(others), range(others)):
                wanted = exact.times(exact.value(one[i][j]), exact.value(other[k][place]))
                self.assertEqual(exact.value(found[others * i + k][others * j + place]), wanted)
            self.assertEqual(beside_tables(still_table(rows), still_table(others)), still_table(rows * others))


class Upright(unittest.TestCase):
    def test_upright_or_a_slant_never_both(self):
        for table in any_tables(8) + nearly_upright(8) + [BENT]:
            found = slants(table)
            self.assertIs(is_upright(table), not found)
            if found:
                self.assertEqual(slant_of(table), min(found))
            else:
                with self.assertRaises(NoPaper):
                    slant_of(table)

    def test_what_is_a_slant(self):
        for table in any_tables(9) + nearly_upright(9):
            found, places = slants(table), range(-2, len(table) + 2)
            for pair in itertools.product(places, places):
                self.assertIs(is_slant(table, pair), pair in found)

    def test_things_of_every_kind_are_no_slant(self):
        zeros = ((ZERO, ZERO), (ZERO, ZERO))
        self.assertIs(is_slant(zeros, (0, 0)), True)
        self.assertIs(is_slant(BENT, (0, 1)), True)
        self.assertIs(is_slant(((ONE, HALF), (ONE, HALF)), (0, 1)), True)
        for thing in drawn.things() + [(0, 1, 1), [0, 1], (0, True), (False, 1), (0, "1"), (1, 0), (0, 2), (-1, 0)]:
            self.assertIs(is_slant(zeros, thing), repr(thing) == "(0, 0)", thing)

    def test_upright_ones(self):
        for table in uprights(10):
            self.assertIs(is_upright(table), True)
            self.assertEqual(table_product(table_mirrored(table), table), still_table(len(table)))
            self.assertEqual(table_product(table, table_mirrored(table)), still_table(len(table)))
            self.assertEqual(size_of(determinant(table)), ONE)
            self.assertIs(is_upright(twin_table(table)), True)


class Determinants(unittest.TestCase):
    def wanted(self, table):
        """Straight from the definition: all ways to take one RAY from each row."""
        values, parts = exact.table_values(table), []
        for ways in itertools.permutations(range(len(table))):
            later = sum(ways[i] > ways[j] for i, j in itertools.combinations(range(len(ways)), 2))
            parts.append(exact.times(exact.power_of_w(4 * later), *[values[i][j] for i, j in enumerate(ways)]))
        return exact.plus(*parts)

    def test_small_ones(self):
        draw = drawn.rng(11)
        for table in [drawn.table(draw, rows) for rows in (2, 3, 4, 5) for _ in range(4)] + uprights(11, (2, 4, 5)):
            self.assertTrue(is_ray(determinant(table)))
            self.assertEqual(exact.value(determinant(table)), self.wanted(table))

    def test_eight_rows(self):
        for one, other in zip(uprights(12, (8,)), uprights(13, (8,))):
            self.assertIsNotNone(eighth_of(determinant(one)))
            product = eighth_of(determinant(table_product(one, other)))
            self.assertEqual(product, (eighth_of(determinant(one)) + eighth_of(determinant(other))) % 8)
        self.assertEqual(determinant(still_table(8)), ONE)
        self.assertEqual(determinant(still_table(8)[::-1]), ONE)
        self.assertEqual(determinant(still_table(7)[::-1]), (-1, 0, 0, 0, 0))
        self.assertEqual(determinant(((ZERO,) * 8,) * 8), ZERO)


class Like(unittest.TestCase):
    def turned(self, table, many):
        return tuple(tuple(turned_ray(ray, many) for ray in row) for row in table)

    def test_like(self):
        for table in uprights(14) + any_tables(15, (2, 3)):
            if any(ray != ZERO for row in table for ray in row):
                for many in range(8):
                    self.assertEqual(like_turn(self.turned(table, many), table), many)
                    self.assertEqual(like_turn(table, self.turned(table, many)), -many % 8)

    def test_unlike(self):
        self.assertIsNone(like_turn(BENT, drawn.MIXED))
        self.assertIsNone(like_turn(((ONE, ZERO), (ZERO, (0, 1, 0, 0, 0))), still_table(2)))
        zeros = ((ZERO, ZERO), (ZERO, ZERO))
        self.assertEqual(like_turn(zeros, zeros), 0)
        self.assertIsNone(like_turn(zeros, BENT))


if __name__ == "__main__":
    unittest.main()
