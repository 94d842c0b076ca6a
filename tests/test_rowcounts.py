"""[18]: rowcounts.py, by counting out."""

import itertools
import unittest

import drawn
from eighthturns.deeds import deeds_done
from eighthturns.errors import Unfit
from eighthturns.fills import is_a_size
from eighthturns.rays import is_ray, ray_of, turned_ray
from eighthturns.rowcounts import (number_of_state, plain_many, plain_state, rays_of_size, rests_many, rests_of, shape_many,
                                   shape_of, shapes_of, sizes_to, state_by_number, states_many, states_of_power)
from eighthturns.states import is_state, kinds_of, state_power

ZERO, ONE, W, HALF, LESS = drawn.ZERO, drawn.ONE, (0, 1, 0, 0, 0), drawn.HALF, drawn.LESS


def size(numbers):
    """The size of a whole RAY, straight from w to the fourth being -1."""
    a, b, c, d = numbers
    return (a * a + b * b + c * c + d * d, a * b + b * c + c * d - d * a)


def all_numbers(most):
    """The numbers of all whole RAYS of a size with a at most most, ascending."""
    span = [number for number in range(-most, most + 1) if number * number <= most]
    return [numbers for numbers in itertools.product(span, repeat=4) if size(numbers)[0] <= most]


def by_size(most):
    found = {}
    for numbers in all_numbers(most):
        found.setdefault(size(numbers), []).append(numbers + (0,))
    return found


def rows_at(N, k, left=None):
    """All rows of N whole RAYS that come to (2 ** k, 0), ascending, by trying all."""
    left = (2 ** k, 0) if left is None else left
    if N == 0:
        return [()] if left == (0, 0) else []
    found = []
    for numbers in all_numbers(left[0]):
        a, b = size(numbers)
        found += [(numbers,) + row for row in rows_at(N - 1, k, (left[0] - a, left[1] - b))]
    return found


def state_of(row, k):
    return tuple(ray_of(numbers, k) for numbers in row)


def rest(pair):
    a, b = pair
    return 1 if a % 2 else 2 if b % 2 else 0


def triple(row):
    rests = [rest(size(numbers)) for numbers in row]
    return (rests.count(0), rests.count(1), rests.count(2))


def put_together(one, other, most):
    """How many rows come to what, those of one with those of other behind."""
    found = {}
    for (a, b), many in one.items():
        for (c, d), more in other.items():
            if a + c <= most:
                found[(a + c, b + d)] = found.get((a + c, b + d), 0) + many * more
    return found


SMALL = [(N, k) for N, k in ((2, 0), (2, 1), (2, 2), (2, 3), (3, 0), (3, 1), (3, 2), (4, 0), (4, 1), (5, 1))]
ROWS = {own: rows_at(*own) for own in SMALL}


class Sizes(unittest.TestCase):
    def test_rays_of_a_size(self):
        known = by_size(14)
        for a in range(-2, 15):
            for b in range(-15, 16):
                found = rays_of_size(a, b)
                self.assertEqual(repr(found), repr(tuple(known.get((a, b), ()))))
                self.assertTrue(all(is_ray(ray) for ray in found))

    def test_far_ones(self):
        known = by_size(64)
        for a in (31, 62, 63, 64):
            for b in range(-46, 47):
                self.assertEqual(rays_of_size(a, b), tuple(known.get((a, b), ())))

    def test_which_are_sizes(self):
        known = sorted(by_size(64))
        for most in (-1, 0, 1, 2, 3, 16, 20, 63, 64):
            self.assertEqual(repr(sizes_to(most)), repr(tuple(own for own in known if own[0] <= most)))
        wanted = [(a, b) for a in range(65) for b in range(-64, 65) if is_a_size((a, b, 0, -b, 0))]
        self.assertEqual(sizes_to(64), tuple(wanted))


class Counts(unittest.TestCase):
    def test_by_all(self):
        for N, k in SMALL:
            self.assertEqual(states_many(N, k), len(ROWS[(N, k)]))
            powers = [state_power(state_of(row, k)) for row in ROWS[(N, k)]]
            self.assertEqual(states_of_power(N, k), powers.count(k))
            self.assertTrue(all(is_state(state_of(row, k)) for row in ROWS[(N, k)][::7]))

    def test_by_putting_rows_together(self):
        for k in range(5):
            ones = {own: len(rays) for own, rays in by_size(2 ** k).items()}
            rows = ones
            for N in range(2, 9):
                rows = put_together(rows, ones, 2 ** k)
                self.assertEqual(states_many(N, k), rows[(2 ** k, 0)])
                self.assertEqual(states_of_power(N, k), rows[(2 ** k, 0)] - (states_many(N, k - 1) if k else 0))

    def test_great_powers(self):
        for k in (5, 6):
            ones = {own: len(rays) for own, rays in by_size(2 ** k).items()}
            twos = put_together(ones, ones, 2 ** k)
            self.assertEqual(states_many(2, k), twos[(2 ** k, 0)])
            self.assertEqual(states_many(3, k), sum(twos[(a, b)] * ones.get((2 ** k - a, -b), 0) for a, b in twos))
            self.assertEqual(states_many(4, k), sum(twos[(a, b)] * twos.get((2 ** k - a, -b), 0) for a, b in twos))

    def test_no_more_than_the_rests_say(self):
        for N in range(2, 9):
            for k in range(7):
                self.assertEqual(states_many(N, k), sum(many for _, many in rests_many(N, k)))


class Numbers(unittest.TestCase):
    def test_all_in_order(self):
        for N, k in SMALL:
            rows = ROWS[(N, k)]
            self.assertEqual(rows, sorted(rows))
            step = 1 if len(rows) < 600 else 37
            for number in list(range(0, len(rows), step)) + [len(rows) - 1]:
                state = state_of(rows[number], k)
                self.assertEqual(repr(state_by_number(N, k, number)), repr(state))
                self.assertEqual(number_of_state(state, k), number)

    def test_both_ends(self):
        for N in range(2, 5):
            for k in range(5):
                many = states_many(N, k)
                for number in (-1, -many, many, many + 1, 10 ** 30):
                    with self.assertRaises(Unfit):
                        state_by_number(N, k, number)
                for number in (0, 1, many // 2, many - 1):
                    state = state_by_number(N, k, number)
                    self.assertTrue(is_state(state) and len(state) == N and state_power(state) <= k)
                    self.assertEqual(number_of_state(state, k), number)

    def test_drawn_ones(self):
        draw = drawn.rng(1)
        for N, k in ((2, 4), (3, 3), (3, 4), (4, 2), (4, 4)):
            numbers = sorted(draw.randrange(states_many(N, k)) for _ in range(12))
            states = [state_by_number(N, k, number) for number in numbers]
            wholes = [tuple(whole_numbers(ray, k) for ray in state) for state in states]
            self.assertEqual(wholes, sorted(wholes))
            self.assertEqual([number_of_state(state, k) for state in states], numbers)

    def test_greater_k_has_other_numbers(self):
        state = (ONE, ZERO)
        self.assertEqual([state_by_number(2, k, number_of_state(state, k)) for k in range(5)], [state] * 5)

    def test_power_above_k(self):
        draw = drawn.rng(2)
        for _ in range(20):
            state = deeds_done((ONE, ZERO, ZERO), drawn.deeds(draw, 3, 9))
            power = state_power(state)
            for k in range(5):
                for function in (number_of_state, rests_of, shape_of):
                    if k < power:
                        with self.assertRaises(Unfit):
                            function(state, k)
                    else:
                        function(state, k)


def whole_numbers(ray, k):
    """The numbers of the RAY times root, k times."""
    a, b, c, d, power = ray
    for _ in range(k - power):
        a, b, c, d = b - d, a + c, b + d, c - a
    return (a, b, c, d)


class Rests(unittest.TestCase):
    def test_of_all(self):
        for N, k in SMALL:
            counted = {}
            for row in ROWS[(N, k)]:
                counted[triple(row)] = counted.get(triple(row), 0) + 1
            self.assertEqual(repr(rests_many(N, k)), repr(tuple(sorted(counted.items()))))
            for row in ROWS[(N, k)][::11]:
                self.assertEqual(repr(rests_of(state_of(row, k), k)), repr(triple(row)))

    def test_by_putting_rows_together(self):
        for k in (1, 2, 3, 4):
            parts = [{}, {}, {}]
            for own, rays in by_size(2 ** k).items():
                parts[rest(own)][own] = len(rays)
            rows = {(0, 0, 0): {(0, 0): 1}}
            for N in range(1, 5):
                longer = {}
                for own, counts in rows.items():
                    for at in range(3):
                        key = tuple(many + (place == at) for place, many in enumerate(own))
                        more = put_together(counts, parts[at], 2 ** k)
                        known = longer.setdefault(key, {})
                        for pair, many in more.items():
                            known[pair] = known.get(pair, 0) + many
                rows = longer
                wanted = sorted((own, counts[(2 ** k, 0)]) for own, counts in rows.items() if counts.get((2 ** k, 0)))
                if N > 1:
                    self.assertEqual(rests_many(N, k), tuple(wanted))

    def test_even_and_lower_powers(self):
        draw = drawn.rng(3)
        for N in range(2, 9):
            for k in range(1, 7):
                for (zeros, ones, twos), many in rests_many(N, k):
                    self.assertEqual((zeros + ones + twos, ones % 2, twos % 2), (N, 0, 0))
                    self.assertTrue(many > 0)
                self.assertEqual(dict(rests_many(N, k)).get((N, 0, 0), 0), states_many(N, k - 1))
            for _ in range(6):
                state = deeds_done((ONE,) + (ZERO,) * (N - 1), drawn.deeds(draw, N, 12))
                power = state_power(state)
                for k in (power, power + 1, power + 3):
                    self.assertEqual(rests_of(state, k) == (N, 0, 0), k > power)
                kinds = kinds_of(state)
                self.assertEqual(rests_of(state, power), tuple(kinds.count(kind) for kind in (0, 1, 2)))

    def test_at_0_one_has_rest_1(self):
        for N in range(2, 9):
            self.assertEqual(rests_many(N, 0), (((N - 1, 1, 0), 8 * N),))


class Shapes(unittest.TestCase):
    def test_of_all(self):
        for N, k in SMALL:
            counted = {}
            for row in ROWS[(N, k)]:
                shape = tuple(sorted(size(numbers) for numbers in row))
                counted[shape] = counted.get(shape, 0) + 1
            self.assertEqual(repr(shapes_of(N, k)), repr(tuple(sorted(counted))))
            for shape, many in counted.items():
                self.assertEqual(shape_many(shape), many)
            for row in ROWS[(N, k)][::13]:
                self.assertEqual(repr(shape_of(state_of(row, k), k)), repr(tuple(sorted(size(numbers) for numbers in row))))

    def test_they_come_to_all(self):
        for N in (2, 3, 4):
            for k in range(5):
                shapes = shapes_of(N, k)
                self.assertEqual(list(shapes), sorted(set(shapes)))
                self.assertEqual(sum(shape_many(shape) for shape in shapes), states_many(N, k))
                for shape in shapes:
                    self.assertEqual(list(shape), sorted(shape))
                    self.assertEqual((sum(a for a, _ in shape), sum(b for _, b in shape)), (2 ** k, 0))

    def test_one_kind_of_pair_and_several(self):
        self.assertEqual(shape_many(((1, 0),) * 8), 8 ** 8)
        self.assertEqual(shape_many(((0, 0),) * 7 + ((64, 0),)), 8 * len(rays_of_size(64, 0)))
        self.assertEqual(shape_many(((0, 0), (1, 0), (1, 0), (2, 0))), 12 * 8 ** 2 * len(rays_of_size(2, 0)))

    def test_of_a_state_at_greater_k(self):
        state = (HALF, (0, 1, 0, 0, 1), ZERO)
        for k in range(1, 7):
            self.assertEqual(shape_of(state, k), ((0, 0), (2 ** (k - 1), 0), (2 ** (k - 1), 0)))


class Plain(unittest.TestCase):
    def test_by_all_turns_and_swaps(self):
        draw = drawn.rng(4)
        for N in (2, 3):
            for length in (0, 2, 5, 9):
                state = deeds_done((ONE,) + (ZERO,) * (N - 1), drawn.deeds(draw, N, length))
                all_forms = [tuple(turned_ray(ray, many) for ray, many in zip(own, turns))
                             for own in itertools.permutations(state) for turns in itertools.product(range(8), repeat=N)]
                self.assertEqual(repr(plain_state(state)), repr(min(all_forms)))
                self.assertTrue(is_state(plain_state(state)))

    def test_turns_and_swaps_keep_it(self):
        draw = drawn.rng(5)
        for N in (2, 4, 8):
            for _ in range(8):
                state = deeds_done((ONE,) + (ZERO,) * (N - 1), drawn.deeds(draw, N, 14))
                plain = plain_state(state)
                deeds = [deed for deed in drawn.deeds(draw, N, 30) if deed[0] != "mix"]
                self.assertEqual(plain_state(deeds_done(state, deeds)), plain)
                self.assertEqual(plain_state(plain), plain)

    def test_how_many(self):
        for N, k in SMALL[:9]:
            forms = {plain_state(state_of(row, k)) for row in ROWS[(N, k)]}
            self.assertEqual(plain_many(N, k), len(forms))

    def test_how_many_of_more(self):
        for N, k in ((3, 3), (4, 2)):
            wholes = {ray[:4]: min(turned_ray(ray, many) for many in range(8))
                      for rays in by_size(2 ** k).values() for ray in rays}
            least = sorted(set(wholes.values()))
            found = 0
            for chosen in itertools.combinations_with_replacement(least, N):
                sizes = [size(ray[:4]) for ray in chosen]
                found += (sum(a for a, _ in sizes), sum(b for _, b in sizes)) == (2 ** k, 0)
            self.assertEqual(plain_many(N, k), found)

    def test_how_many_of_two_places(self):
        for k in range(7):
            plain = {own: max(len(rays) // 8, 1) for own, rays in by_size(2 ** k).items()}
            wanted = 0
            for (a, b), many in plain.items():
                other = (2 ** k - a, -b)
                if (a, b) < other:
                    wanted += many * plain.get(other, 0)
                elif (a, b) == other:
                    wanted += many * (many + 1) // 2
            self.assertEqual(plain_many(2, k), wanted)

    def test_never_more_than_the_states(self):
        for N in (2, 3, 4):
            for k in range(5):
                self.assertTrue(len(shapes_of(N, k)) <= plain_many(N, k) <= states_many(N, k))


if __name__ == "__main__":
    unittest.main()
