"""[9]: states.py, against another way to reckon."""

import unittest

import drawn
import exact
from eighthturns.deeds import are_deeds, deeds_done
from eighthturns.errors import Unfit
from eighthturns.rays import is_ray, over_root, turned_ray
from eighthturns.states import (deeds_between, deeds_to, is_leading, is_state, kinds_of, like_states, mates_down,
                                mixes_within, pair_alike, product_of, sizes_of, state_power, twin_state)
from eighthturns.tables import still_table

ZERO, ONE, HALF, LESS = drawn.ZERO, drawn.ONE, drawn.HALF, drawn.LESS


def states(seed, sizes=(2, 3, 4, 5, 6), lengths=(0, 1, 3, 8, 20, 60, 120)):
    draw = drawn.rng(seed)
    return [deeds_done(still_table(many)[draw.randrange(many)], drawn.deeds(draw, many, length))
            for many in sizes for length in lengths]


def spread_states(seed, sizes=(4, 5, 6), layers=(1, 2, 3, 5)):
    """STATES with many RAYS of the greatest k: every place is mixed with another one, layer by layer."""
    draw = drawn.rng(seed)
    found = []
    for many in sizes:
        for length in layers * 3:
            state = still_table(many)[0]
            for _ in range(length + 1):
                order = draw.sample(range(many), many)
                for i, j in zip(order[::2], order[1::2]):
                    state = deeds_done(state, (("turn", i),) * draw.randrange(8) + (("mix", min(i, j), max(i, j)),))
            found.append(state)
    return found


def wholes(state):
    power = max(ray[4] for ray in state)
    return [over_root(ray, -power) for ray in state]


class Shapes(unittest.TestCase):
    def test_states_are_states(self):
        for state in states(1):
            self.assertIs(is_state(state), True)
        self.assertIs(is_state((ZERO,) * 50 + (ONE,)), True)
        self.assertIs(is_state(((1, 0, 0, 0, 8),) * 256), True)
        deep = (ONE, ZERO)
        for turn in range(400):
            deep = deeds_done(deep, (("mix", 0, 1), ("turn", 1)))
        self.assertIs(is_state(deep), True)
        self.assertTrue(state_power(deep) > 100)

    def test_sizes_that_do_not_come_to_one(self):
        for state in ((ONE, ONE), (ZERO, ZERO), (HALF, ZERO), (HALF, HALF, HALF), ((0, 1, 0, -1, 0), ZERO), (HALF, ONE),
                      ((0, 1, 0, -1, 1), ONE), ((1, 0, 0, 0, 2), HALF), ((1, 1, 0, 0, 1), ZERO)):
            self.assertIs(is_state(state), False)

    def test_a_huge_power(self):
        for k in (10 ** 3, 10 ** 6, 10 ** 18):
            for state in (((1, 0, 0, 0, k), ZERO), ((1, 0, 0, 0, k), ONE), ((1, 0, 0, 0, k),) * 4, (HALF, HALF, (1, 1, 0, 0, k))):
                self.assertIs(is_state(state), False)

    def test_things_of_every_kind_are_none(self):
        more = [[ONE, ZERO], (ONE, [0, 0, 0, 0, 0]), (ONE, (0, 0, 0, 0, 0, 0)), (ONE, (False, 0, 0, 0, 0)), (ONE,), ONE,
                (ONE, None), (ONE, "0"), (ONE, 0), ((2, 0, 0, 0, 2), ZERO), ((ONE, ZERO), (ZERO, ONE)), (ONE, True)]
        for thing in drawn.things() + more:
            self.assertIs(is_state(thing), False, thing)


class ReadOff(unittest.TestCase):
    def test_sizes_and_power(self):
        for state in states(2):
            self.assertEqual(exact.values(sizes_of(state)), tuple(exact.size(part) for part in exact.values(state)))
            self.assertTrue(all(is_ray(size) for size in sizes_of(state)))
            self.assertEqual(state_power(state), max(ray[4] for ray in state))

    def test_kinds(self):
        seen = set()
        for state in states(3) + spread_states(3):
            kinds, power = kinds_of(state), state_power(state)
            seen.update(kinds)
            for ray, kind in zip(wholes(state), kinds):
                self.assertEqual(ray[4], 0)
                self.assertEqual(kind == 0, (ray[0] + ray[2]) % 2 == 0 and (ray[1] + ray[3]) % 2 == 0)
                self.assertEqual(kind == 1, sum(part % 2 for part in ray[:4]) in (1, 3))
            self.assertTrue(set(kinds) <= {0, 1, 2} and kinds.count(2) % 2 == 0 and set(kinds) != {0})
            self.assertTrue(power == 0 or kinds.count(1) % 2 == 0)
        self.assertEqual(seen, {0, 1, 2})

    def test_pairs(self):
        seen = set()
        for state in states(4) + spread_states(4):
            kinds = kinds_of(state)
            pairs = [(i, j) for i in range(len(kinds)) for j in range(i + 1, len(kinds)) if kinds[i] == kinds[j] > 0]
            seen.add((min(len(pairs), 2), 1 in kinds and 2 in kinds, 0 in kinds[:1]))
            self.assertEqual(pair_alike(state), min(pairs) if state_power(state) > 0 else None)
        self.assertTrue({(0, False, True), (1, False, False), (2, False, False), (2, True, False)} <= seen)

    def test_mates(self):
        many_found = set()
        for state in states(5) + spread_states(5):
            power, found = state_power(state), []
            for j in range(len(state)):
                for i in range(j):
                    for m in range(4):
                        after = deeds_done(state, (("turn", j),) * m + (("mix", i, j),))
                        if max(state[i][4], state[j][4]) == power and max(after[i][4], after[j][4]) < power:
                            found.append((i, j, m))
            self.assertEqual(mates_down(state), tuple(sorted(found)))
            many_found.add(min(len(found), 2))
            if power == 0:
                self.assertEqual(found, [])
        self.assertEqual(many_found, {0, 1, 2})

    def test_twins(self):
        for state in states(6):
            self.assertTrue(is_state(twin_state(state)))
            self.assertEqual(exact.values(twin_state(state)), tuple(exact.twin(part) for part in exact.values(state)))
            self.assertEqual(twin_state(twin_state(state)), state)


class Leading(unittest.TestCase):
    def test_deeds_to(self):
        for state in states(7) + spread_states(7):
            start, deeds = still_table(len(state))[0], deeds_to(state)
            self.assertTrue(are_deeds(len(state), deeds))
            self.assertEqual(exact.done_all(exact.values(start), deeds), exact.values(state))
            self.assertEqual(deeds_to(state), deeds)
            self.assertIs(is_leading(start, state, deeds), True)

    def test_deeds_between(self):
        ones, others = states(8) + spread_states(8), states(9) + spread_states(9)
        for one, other in list(zip(ones, others)) + list(zip(ones, ones)):
            deeds = deeds_between(one, other)
            self.assertTrue(are_deeds(len(one), deeds))
            self.assertEqual(exact.done_all(exact.values(one), deeds), exact.values(other))
            self.assertEqual(deeds_between(one, other), deeds)
            self.assertIs(is_leading(one, other, deeds), True)
            self.assertIs(is_leading(one, other, deeds + (("turn", 0),) * 8), True)
            self.assertIs(is_leading(one, other, list(deeds)), False)
            self.assertIs(is_leading(one, other, deeds + (("turn", len(one)),)), False)

    def test_what_leads_elsewhere(self):
        one, other = (ONE, ZERO), (HALF, LESS)
        self.assertIs(is_leading(one, other, (("mix", 0, 1),)), False)
        self.assertIs(is_leading(one, other, (("swap", 0, 1), ("mix", 0, 1))), True)
        self.assertIs(is_leading(one, other, ()), False)
        for thing in drawn.things() + [("turn", 0), [("turn", 0)], (["turn", 0],), (("mix", 0, True),), (("mix", 0, 5),)]:
            self.assertIs(is_leading(one, one, thing), repr(thing) == "()", thing)

    def level(self, states_below, many):
        """What one DEED with a mix, turns and swaps around it, makes of these, up to turns and swaps."""
        found = set()
        for state in states_below:
            for j in range(many):
                for i in range(j):
                    for a in range(8):
                        for b in range(8):
                            found.add(self.plain(deeds_done(
                                state, (("turn", i),) * a + (("turn", j),) * b + (("mix", i, j),))))
        return found

    def plain(self, state):
        """The same for all STATES that turns and swaps make of one another."""
        return tuple(sorted(min(turned_ray(ray, m) for m in range(8)) for ray in state))

    def test_mixes_by_search(self):
        for many in (2, 3):
            levels = [{self.plain(still_table(many)[0])}]
            for _ in range(2):
                levels.append(self.level(levels[-1], many))
            draw = drawn.rng(many)
            for _ in range(120):
                state = deeds_done(still_table(many)[0], drawn.deeds(draw, many, draw.randint(0, 12)))
                wanted = [at for at, level in enumerate(levels) if self.plain(state) in level]
                for most in range(3):
                    told = min(wanted) if wanted and min(wanted) <= most else None
                    self.assertEqual(mixes_within(state, most), told)

    def test_mixes_of_six_places(self):
        quarter = (1, 0, 0, 0, 2)
        self.assertEqual(mixes_within((quarter,) * 4 + (ZERO, ZERO), 2), None)
        self.assertEqual(mixes_within((HALF, quarter, quarter, ZERO, ZERO, ZERO), 2), 2)
        self.assertEqual(mixes_within((HALF, quarter, quarter, ZERO, ZERO, ZERO), 1), None)
        self.assertEqual(mixes_within((ZERO, HALF, ZERO, ZERO, ZERO, (0, 1, 0, 0, 1)), 2), 1)
        self.assertEqual(mixes_within((ZERO, HALF, ZERO, ZERO, ZERO, (0, 1, 0, 0, 1)), 0), None)
        self.assertEqual(mixes_within((ZERO, ZERO, ZERO, ZERO, ZERO, (0, 1, 0, 0, 0)), 0), 0)
        for state in states(10, (6,)):
            if state_power(state) > 2:
                self.assertIsNone(mixes_within(state, 2))


class OfTwo(unittest.TestCase):
    def test_products(self):
        for one, other in zip(states(11), states(12)):
            product = product_of(one, other)
            self.assertTrue(is_ray(product))
            self.assertEqual(exact.value(product), exact.product(exact.values(one), exact.values(other)))
            self.assertEqual(product_of(one, one), ONE)

    def test_like(self):
        for one, other in zip(states(13), states(14)):
            for m in range(8):
                turned = tuple(turned_ray(ray, m) for ray in one)
                self.assertEqual(like_states(one, turned), m)
                self.assertEqual(like_states(turned, one), -m % 8)
            like = [m for m in range(8) if tuple(turned_ray(ray, m) for ray in one) == other]
            self.assertEqual(like_states(one, other), like[0] if like else None)
        self.assertIsNone(like_states((ONE, ZERO), (ZERO, ONE)))
        self.assertIsNone(like_states((HALF, HALF), (HALF, LESS)))

    def test_unlike_places_are_unfit_ahead_of_all_else(self):
        two, three = (ONE, ZERO), (ONE, ZERO, ZERO)
        for one, other in ((two, three), (three, two)):
            for function in (deeds_between, product_of, like_states):
                with self.assertRaises(Unfit):
                    function(one, other)
            for thing in ((), None, (("turn", 0),), (("turn", 9),), "x"):
                with self.assertRaises(Unfit):
                    is_leading(one, other, thing)


if __name__ == "__main__":
    unittest.main()
