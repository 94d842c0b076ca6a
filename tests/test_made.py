"""[8]: made.py, against another way to reckon."""

import itertools
import unittest

import drawn
import exact
from eighthturns.deeds import are_deeds, deeds_table
from eighthturns.errors import NoPaper, Unfit
from eighthturns.made import (bar_of, blocks, can_begin, deeds_for, is_bar, is_deeds_for, is_given, is_made,
                              is_table_from, least_power, needed_places, plain_cost, power_chart, rays_given, table_from)
from eighthturns.rays import turned_ray
from eighthturns.tables import is_table, is_upright, still_table

ZERO, ONE, W, HALF, LESS = drawn.ZERO, drawn.ONE, (0, 1, 0, 0, 0), drawn.HALF, drawn.LESS


def over_one(table):
    return tuple(tuple((ray, 1) for ray in row) for row in table)


def stretched(draw, table):
    """The same RAYS, each told with an odd bottom."""
    rows = []
    for row in table:
        bottoms = [draw.choice((1, 3, 5, 999999)) for _ in row]
        rows.append(tuple((tuple(part * bottom for part in ray[:4]) + (ray[4],), bottom)
                          for ray, bottom in zip(row, bottoms)))
    return tuple(rows)


def uprights(seed, sizes=(2, 3, 4, 5, 6, 8), lengths=(0, 6, 20, 60)):
    draw = drawn.rng(seed)
    return [deeds_table(many, drawn.deeds(draw, many, length)) for many in sizes for length in lengths]


def bent(draw, table):
    """The table with one RAY exchanged."""
    rows = [list(row) for row in table]
    i, j = draw.randrange(len(rows)), draw.randrange(len(rows))
    rows[i][j] = draw.choice((ZERO, ONE, HALF, turned_ray(rows[i][j], 1), (1, 1, 0, 0, 1)))
    return tuple(tuple(row) for row in rows)


def givens(seed):
    draw = drawn.rng(seed)
    found = []
    for table in uprights(seed, (2, 3, 4)):
        found.extend([over_one(table), stretched(draw, table), over_one(bent(draw, table)), stretched(draw, bent(draw, table))])
        rows = [list(row) for row in over_one(table)]
        i = draw.randrange(len(rows))
        rows[i] = [(ray, draw.choice((1, 1, 3))) for ray, _ in rows[i]]
        found.append(tuple(tuple(row) for row in rows))
    return found + [over_one(drawn.table(draw, 2)), over_one(((ZERO, ZERO), (ZERO, ZERO)))]


def all_bars(given):
    """All BARS, straight from their definition."""
    many = len(given)
    odd = [(i, j) for i in range(many) for j in range(many)
           if any(part % given[i][j][1] for part in given[i][j][0][:4])]
    plain = [j for j in range(many) if not any(column == j for _, column in odd)]
    scaled = {j: [exact.times(exact.value(row[j][0]), exact.number(pow(row[j][1], -1, exact.P))) for row in given]
              for j in plain}
    found = [("odd", i, j) for i, j in odd]
    found += [("pair", i, j) for i in plain for j in plain
              if i < j and exact.product(scaled[i], scaled[j]) != exact.number(0)]
    return found + [("size", j) for j in plain if exact.product(scaled[j], scaled[j]) != exact.number(1)]


class Given(unittest.TestCase):
    def test_given_are_given(self):
        for given in givens(1):
            self.assertIs(is_given(given), True)
        self.assertIs(is_given((((ONE, 10 ** 30 + 1),) * 9,) * 9), True)

    def test_bottoms(self):
        for bottom in (1, 3, 5, 7, 999999, 10 ** 20 + 1):
            self.assertIs(is_given((((ONE, 1), (ONE, bottom)), ((ZERO, 1), (ZERO, 1)))), True)
        for bottom in (0, 2, -1, -3, 4, 10 ** 6, True, None, "1", (1,), [1]):
            self.assertIs(is_given((((ONE, 1), (ONE, bottom)), ((ZERO, 1), (ZERO, 1)))), False)

    def test_things_of_every_kind_are_none(self):
        pair = (ONE, 1)
        more = [((pair, pair),), ((pair,),), (pair, pair), [(pair, pair), (pair, pair)], ((pair, pair), [pair, pair]),
                ((pair, pair), (pair,)), ((pair, pair), (pair, [ONE, 1])), ((pair, pair), (pair, ([1, 0, 0, 0, 0], 1))),
                ((pair, pair), (pair, ONE)), ((pair, pair), (pair, (ONE,))), ((pair, pair), (pair, (ONE, 1, 1))),
                ((pair, pair), (pair, ((2, 0, 0, 0, 2), 1))), drawn.still(2), ((pair,) * 3,) * 2]
        for thing in drawn.things() + more:
            self.assertIs(is_given(thing), False, thing)

    def test_the_rays_that_it_is(self):
        draw = drawn.rng(2)
        for table in uprights(2, (2, 5)) + [drawn.table(draw, 3, 10 ** 6, 12)]:
            self.assertEqual(rays_given(over_one(table)), table)
            self.assertEqual(rays_given(stretched(draw, table)), table)
        for given in givens(2):
            if any(bar[0] == "odd" for bar in all_bars(given)):
                with self.assertRaises(Unfit):
                    rays_given(given)
            else:
                self.assertTrue(is_table(rays_given(given)))


class Bars(unittest.TestCase):
    def test_made_or_barred_never_both(self):
        kinds = set()
        for given in givens(3):
            bars = all_bars(given)
            kinds.update([bar[0] for bar in bars] + ([] if bars else ["none"]))
            self.assertIs(is_made(given), not bars)
            if bars:
                self.assertEqual(bar_of(given), min(bars))
                with self.assertRaises(NoPaper):
                    deeds_for(given)
            else:
                with self.assertRaises(NoPaper):
                    bar_of(given)
                self.assertIs(is_deeds_for(given, deeds_for(given)), True)
        self.assertEqual(kinds, {"odd", "pair", "size", "none"})

    def test_each_bar_is_one(self):
        for given in givens(4):
            bars, numbers = all_bars(given), range(-1, len(given) + 1)
            for word in ("odd", "pair", "size", "Odd", ""):
                for i in numbers:
                    self.assertIs(is_bar(given, (word, i)), (word, i) in bars)
                    for j in numbers:
                        self.assertIs(is_bar(given, (word, i, j)), (word, i, j) in bars)

    def test_each_of_the_four_numbers_counts(self):
        for place in range(4):
            for bottom, part in ((3, 1), (5, 4), (9, 3), (999999, 3)):
                numbers = [2 * bottom] * 4
                numbers[place] += part
                given = (((ONE, 1), ((*numbers, 0), bottom)), ((ZERO, 1), (ONE, 1)))
                self.assertEqual(bar_of(given), ("odd", 0, 1))
                self.assertIs(is_bar(given, ("odd", 0, 1)), True)
                with self.assertRaises(Unfit):
                    rays_given(given)

    def test_things_of_every_kind_are_none(self):
        given = (((ONE, 3), (HALF, 1)), ((ONE, 1), (ONE, 1)))
        self.assertIs(is_bar(given, ("odd", 0, 0)), True)
        self.assertIs(is_bar(given, ("size", 1)), True)
        more = [["odd", 0, 0], ("odd", False, 0), ("odd", 0, False), ("odd", 0, 0, 0), ("odd",), ("odd", "0", 0), "odd",
                ("size", True), ("size", 1, 1), ("size",), (("size",), 1), ("size", [1]), ("size", None), ("pair", 0, 1)]
        for thing in drawn.things() + more:
            self.assertIs(is_bar(given, thing), False, thing)


class DeedsFor(unittest.TestCase):
    def assert_made(self, table):
        given = over_one(table)
        self.assertIs(is_made(given), True)
        deeds = deeds_for(given)
        self.assertTrue(are_deeds(len(table), deeds))
        self.assertEqual(exact.deeds_values(len(table), deeds), exact.table_values(table))
        self.assertEqual(deeds_for(given), deeds)
        self.assertIs(is_deeds_for(given, deeds), True)

    def test_all_are_made(self):
        for table in uprights(5):
            self.assert_made(table)

    def test_two_hundred_deeds_of_eight_places(self):
        for seed in range(3):
            self.assert_made(deeds_table(8, drawn.deeds(drawn.rng(seed), 8, 200)))

    def test_one_power_after_another(self):
        # RAYS of kind 1 that no single mix brings down, of whatever power.
        for table in uprights(6, (2, 3), (3, 9, 15, 21, 30)):
            self.assert_made(table)

    def test_other_deeds_are_right_too(self):
        draw = drawn.rng(7)
        for many in (2, 3, 8):
            deeds = drawn.deeds(draw, many, 12)
            given = stretched(draw, deeds_table(many, deeds))
            self.assertIs(is_deeds_for(given, deeds), True)
            self.assertIs(is_deeds_for(given, deeds + (("mix", 0, 1),) * 2), True)
            self.assertIs(is_deeds_for(given, deeds + (("mix", 0, 1),)), False)
            self.assertIs(is_deeds_for(given, deeds + (("turn", many),)), False)
            self.assertIs(is_deeds_for(given, list(deeds)), False)

    def test_things_of_every_kind_are_none(self):
        given = over_one(still_table(2))
        for thing in drawn.things() + [(("turn", 0),), ["turn", 0], (["mix", 0, 1],) * 2, (("mix", 0, True),) * 2]:
            self.assertIs(is_deeds_for(given, thing), repr(thing) == "()", thing)
        self.assertIs(is_deeds_for((((ONE, 3), (ZERO, 1)), ((ZERO, 1), (ONE, 1))), ()), False)


class Columns(unittest.TestCase):
    def test_begun_and_filled_up(self):
        for table in uprights(8):
            columns = exact.columns(table)
            for length in {0, 1, len(table) - 1, len(table)}:
                begun = columns[:length]
                self.assertIs(can_begin(begun, len(table)), True)
                found = table_from(begun, len(table))
                self.assertTrue(is_table(found) and is_upright(found))
                self.assertEqual(exact.columns(found)[:length], begun)
                self.assertEqual(table_from(begun, len(table)), found)
                self.assertIs(is_table_from(begun, len(table), found), True)
                self.assertIs(is_table_from(begun, len(table), table), True)

    def test_none(self):
        for many in range(2, 9):
            self.assertIs(can_begin((), many), True)
            self.assertTrue(is_upright(table_from((), many)))
            self.assertEqual(len(table_from((), many)), many)

    def test_what_cannot_begin(self):
        low, root = (HALF, HALF), (0, 1, 0, -1, 0)
        for columns, many in ((((HALF, HALF), (HALF, HALF)), 2), (((ONE, ONE),), 2), (((ZERO, ZERO),), 2), ((low, (ONE, ZERO)), 2),
                              (((HALF, HALF, ZERO), (HALF, LESS, ZERO), (ZERO, ZERO, HALF)), 3), (((root, ZERO, ZERO),), 3),
                              (((HALF, (0, 1, 0, 0, 1)), (HALF, (0, 1, 0, 0, 1))), 2)):
            self.assertIs(can_begin(columns, many), False)
            with self.assertRaises(Unfit):
                table_from(columns, many)
            self.assertIs(is_table_from(columns, many, still_table(many)), False)
        self.assertIs(can_begin((low, (HALF, LESS)), 2), True)

    def test_which_tables_are_such(self):
        even, low = drawn.MIXED, ((HALF, HALF),)
        self.assertIs(is_table_from(low, 2, even), True)
        self.assertIs(is_table_from(low, 2, ((HALF, W), (HALF, ZERO))), False)
        self.assertIs(is_table_from(low, 2, ((HALF, HALF), (HALF, HALF))), False)
        self.assertIs(is_table_from(low, 2, still_table(2)), False)
        self.assertIs(is_table_from((), 2, still_table(3)), False)
        far = (1, 0, 0, 0, 10 ** 18)
        self.assertIs(is_table_from((), 2, ((ONE, far), (far, ONE))), False)
        self.assertIs(is_table_from((), 2, ((far, far), (far, far))), False)
        for thing in drawn.things() + [[list(row) for row in even], (even,), even[0]]:
            self.assertIs(is_table_from(low, 2, thing), False, thing)
            self.assertIs(is_table_from((), 2, thing), False, thing)


class ReadOff(unittest.TestCase):
    def test_powers(self):
        for table in uprights(9):
            self.assertEqual(power_chart(table), tuple(tuple(ray[4] for ray in row) for row in table))
            self.assertEqual(least_power(table), max(ray[4] for row in table for ray in row))
        self.assertEqual((power_chart(still_table(2)), least_power(still_table(8))), (((0, 0), (0, 0)), 0))

    def joined(self, table):
        """The sets, by steps from place to place."""
        many, found = len(table), set()
        for start in range(many):
            seen = [start]
            for place in seen:
                seen += [q for q in range(many) if q not in seen and (table[place][q] != ZERO or table[q][place] != ZERO)]
            found.add(tuple(sorted(seen)))
        return tuple(sorted(found))

    def test_blocks(self):
        for table in uprights(10, (2, 3, 4, 6, 8), (0, 1, 2, 3, 4, 6, 30)):
            self.assertEqual(blocks(table), self.joined(table))
        self.assertEqual(blocks(still_table(3)), ((0,), (1,), (2,)))
        self.assertEqual(blocks(deeds_table(4, (("mix", 0, 3), ("swap", 1, 2)))), ((0, 3), (1, 2)))

    def test_needed_places(self):
        for table in uprights(11, (2, 3, 4), (0, 1, 2, 3, 5)):
            needed = needed_places(table)
            others = [place for place in range(len(table)) if place not in needed]
            still = still_table(len(table))
            for place in others:
                self.assertEqual([row[place] for row in table], list(still[place]))
                self.assertEqual(table[place], still[place])
            for place in needed:
                self.assertNotEqual([row[place] for row in table], list(still[place]))
        self.assertEqual(needed_places(still_table(4)), ())
        self.assertEqual(needed_places(deeds_table(3, (("turn", 2),))), (2,))
        self.assertEqual(needed_places(deeds_table(5, (("mix", 1, 3), ("turn", 1), ("mix", 1, 3)))), (1, 3))

    def test_needed_places_are_the_least_by_search(self):
        kinds = [("turn", 0), ("turn", 1), ("turn", 2), ("swap", 0, 1), ("swap", 0, 2), ("swap", 1, 2)]
        reached = {(): {still_table(3)}}
        for length in range(3):
            for deeds in itertools.product(kinds, repeat=length):
                named = tuple(sorted({place for deed in deeds for place in deed[1:]}))
                reached.setdefault(named, set()).add(deeds_table(3, deeds))
        for places in sorted(reached, key=lambda own: (len(own), own)):
            for table in reached[places]:
                self.assertTrue((len(needed_places(table)), needed_places(table)) <= (len(places), places))

    def search(self, many):
        """For each TABLE without a mix the fewest turns, the fewest swaps, by search."""
        swaps = [("swap", i, j) for i in range(many) for j in range(i + 1, many)]
        turns = [("turn", i) for i in range(many)]
        found = [{}, {}]
        for out, counted, free in ((found[0], turns, swaps), (found[1], swaps, turns)):
            out[still_table(many)], queue = 0, [still_table(many)]
            while queue:
                table = queue.pop(0)
                for deed, cost in [(d, 0) for d in free] + [(d, 1) for d in counted]:
                    after = self.behind(table, deed)
                    if out.get(after, 99) > out[table] + cost:
                        out[after] = out[table] + cost
                        queue.append(after)
        return found

    def behind(self, table, deed):
        rows = list(table)
        if deed[0] == "turn":
            rows[deed[1]] = tuple(turned_ray(ray, 1) for ray in rows[deed[1]])
        else:
            rows[deed[1]], rows[deed[2]] = rows[deed[2]], rows[deed[1]]
        return tuple(rows)

    def test_plain_cost_by_search(self):
        turns, swaps = self.search(2)
        self.assertEqual(len(turns), 128)
        for table in turns:
            self.assertEqual(plain_cost(table), (turns[table], swaps[table]))

    def test_plain_cost_of_more_places(self):
        draw = drawn.rng(12)
        for many in (3, 5, 8):
            for _ in range(10):
                goals, eighths = draw.sample(range(many), many), [draw.randrange(8) for _ in range(many)]
                table = tuple(tuple(drawn.EIGHTHS[eighths[i]] if goals[i] == j else ZERO for j in range(many))
                              for i in range(many))
                order, swaps = list(goals), 0
                for place in range(many):
                    if order[place] != place:
                        other = order.index(place)
                        order[place], order[other] = order[other], order[place]
                        swaps += 1
                self.assertEqual(plain_cost(table), (sum(eighths), swaps))
        self.assertEqual(plain_cost(still_table(8)), (0, 0))

    def test_plain_cost_with_a_mix(self):
        for table in uprights(13):
            if least_power(table) > 0:
                with self.assertRaises(Unfit):
                    plain_cost(table)


if __name__ == "__main__":
    unittest.main()
