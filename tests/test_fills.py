"""[16]: fills.py, by all RAYS of small numbers and against another way to reckon."""

import itertools
import math
import unittest

import drawn
import exact
from eighthturns.circuits import circuit_table
from eighthturns.errors import NoPaper, TooMany
from eighthturns.fills import (can_fill, fill_bar, filled_by, has_size, is_a_size, is_fill_bar, is_filled_by, is_size_bar,
                               is_table_with, prime_often, primes_of, ray_of_size, rays_with_size, real_norm, real_parts,
                               size_bar, size_left, table_with)
from eighthturns.rays import is_ray, ray_of, ray_product, ray_sum, size_of, turned_ray, twin_of
from eighthturns.tables import is_table, is_upright

ZERO, ONE, W, HALF, LESS = drawn.ZERO, drawn.ONE, (0, 1, 0, 0, 0), drawn.HALF, drawn.LESS
SMALL_PRIMES = [p for p in range(3, 400, 2) if all(p % q for q in range(3, p, 2))]
TOPS = (1, 1, 1, 0, 4)


def real(a, b, k=0):
    """The real RAY of a + b root, divided by root k times."""
    return ray_of((a, b, 0, -b), k)


def reals(seed, most=240, many=60):
    draw = drawn.rng(seed)
    found = [ZERO, ONE, real(-1, 0), real(0, 1), real(2, 1), real(7, 0), real(49, 0), real(3, 0), real(3, 1), real(240, 240, 8)]
    found += [drawn.real_ray(draw, most, 8) for _ in range(many)]
    found += [size_of(drawn.ray(draw, 7, 4)) for _ in range(many // 2)]
    for p, q in ((7, 1), (7, 7), (23, 1), (17, 1), (3, 7), (5, 1), (31, 17)):
        found += [ray_product(real(p * q, 0), size_of(drawn.ray(draw, 1, 2))), real(p * q, 0, draw.randint(0, 3))]
    for own in (real(3, 1), real(5, 2), real(5, 3), real(7, 2)):
        power = own
        for _ in range(3):
            found.append(power)
            power = ray_product(power, own)
    return [own for own in found if abs(own[0]) <= 10 ** 4]


def sign(a, b):
    """The sign of a + b root, by whole numbers."""
    if a >= 0 and b >= 0:
        return 1 if a or b else 0
    if a <= 0 and b <= 0:
        return -1
    return (1 if a > 0 else -1) * (1 if a * a > 2 * b * b else -1)


def signs(own):
    """The signs of a real RAY and of its twin."""
    a, b, _, _, k = own
    return sign(a, b), sign(a, -b) * (-1) ** k


def root_of_two(p, r, power):
    """A number that leaves r by p such that p to this power divides its square less 2."""
    s = r
    for at in range(2, power + 1):
        s = (s - (s * s - 2) * pow(2 * s, -1, p)) % p ** at
    assert (s * s - 2) % p ** power == 0 and s % p == r
    return s


def often_wanted(own, prime):
    """How often the PRIME divides, straight from the words of the document."""
    a, b, p, r = own[0], own[1], *prime
    often = 0
    while True:
        power = p ** (often + 1)
        if r == 0 and (a % power or b % power) or r and (a + b * root_of_two(p, r, often + 1)) % power:
            return often
        often += 1


def roots_wanted(own, p):
    """The numbers r for which (p, r) is a PRIME, p dividing the norm."""
    if p % 8 in (3, 5):
        return [0]
    if p < 2000:
        return [r for r in range(1, p) if (r * r - 2) % p == 0]
    # Then p does not divide both parts here, so one root is told by them.
    r = -own[0] * pow(own[1], -1, p) % p
    return [r, p - r]


def primes_wanted(own):
    """All PRIMES that divide, by trial."""
    found, norm = [], abs(own[0] ** 2 - 2 * own[1] ** 2)
    norm //= norm & -norm
    p = 3
    while norm > 1:
        if p * p > norm:
            p = norm
        if norm % p == 0:
            found += [((p, r), often_wanted(own, (p, r))) for r in roots_wanted(own, p)]
            while norm % p == 0:
                norm //= p
        p += 2
    return sorted(pair for pair in found if pair[1] > 0)


def bars_wanted(own):
    """All SIZE BARS."""
    found = [(word,) for word, own_sign in zip(("below", "twin"), signs(own)) if own_sign < 0]
    if own != ZERO:
        found += [("prime", p, r, often) for (p, r), often in primes_wanted(own) if p % 8 == 7 and often % 2]
    return found


def too_many(own):
    return abs(own[0] ** 2 - 2 * own[1] ** 2) > 10 ** 9


class Parts(unittest.TestCase):
    def test_parts_and_norms(self):
        for own in reals(1):
            a, b, _, _, k = own
            self.assertEqual(real_parts(own), (a, b, k))
            self.assertEqual(real_norm(own), a * a - 2 * b * b)
        self.assertEqual((real_parts(ZERO), real_norm(ZERO)), ((0, 0, 0), 0))

    def test_how_often_primes_divide(self):
        draw = drawn.rng(2)
        seen = set()
        for own in reals(2):
            if own == ZERO:
                continue
            for p in SMALL_PRIMES[:12] + [draw.choice(SMALL_PRIMES)]:
                roots = [0] if p % 8 in (3, 5) else [r for r in range(1, p) if (r * r - 2) % p == 0]
                self.assertEqual(len(roots), 1 if p % 8 in (3, 5) else 2)
                for r in roots:
                    often = prime_often(own, (p, r))
                    seen.add((r == 0, min(often, 2)))
                    self.assertEqual(often, often_wanted(own, (p, r)))
        self.assertEqual(seen, set(itertools.product((True, False), (0, 1, 2))))
        for power in range(7):
            self.assertEqual(prime_often(real(3 ** power * 5, 0), (3, 0)), power)
            self.assertEqual(prime_often(real(7 ** power, 0, 1), (7, 4)), power)

    def test_powers_of_a_prime_by_one_root_alone(self):
        # 3 + root has the norm 7: only one of the two PRIMES of 7 divides it and its powers.
        own = ONE
        for power in range(6):
            self.assertEqual((prime_often(own, (7, 4)), prime_often(own, (7, 3))), (power, 0))
            own = ray_product(own, real(3, 1))

    def test_all_primes(self):
        for own in reals(3):
            if own != ZERO:
                found = primes_of(own)
                self.assertIsInstance(found, list)
                self.assertEqual(found, primes_wanted(own))
                for (p, r), often in found:
                    self.assertEqual(prime_often(own, (p, r)), often)
        self.assertEqual(primes_of(ONE), [])
        self.assertEqual(primes_of(real(1, 1)), [])
        self.assertEqual(primes_of(real(64, 32)), [])

    def test_large_primes(self):
        for a, b in ((31621, 0), (31607, 0), (31607, 9), (31589, 1), (22003, 70), (30001, 4000)):
            own, product = real(a, b), 1
            for (p, r), often in primes_of(own):
                self.assertTrue(0 <= r < p and all(p % q for q in range(3, math.isqrt(p) + 1, 2)))
                self.assertTrue(r == 0 and p % 8 in (3, 5) or (r * r - 2) % p == 0 and p % 8 in (1, 7))
                self.assertEqual(prime_often(own, (p, r)), often)
                product *= p ** (often * (1 if r else 2))
            norm = abs(a * a - 2 * b * b)
            self.assertEqual(product, norm // (norm & -norm))


class Sizes(unittest.TestCase):
    @classmethod
    def setUpClass(cls):
        """All RAYS of a size a + b root with a small, by their sizes."""
        cls.by_size = {}
        for numbers in itertools.product(range(-4, 5), repeat=4):
            if sum(own * own for own in numbers) <= 16:
                a, b, c, d = numbers
                size = (a * a + b * b + c * c + d * d, a * b + b * c + c * d - d * a)
                cls.by_size.setdefault(size, []).append(numbers)

    def test_sizes_by_all_small_rays(self):
        for a in range(17):
            for b in range(-12, 13):
                wanted = (a, b) in self.by_size
                self.assertIs(is_a_size(real(a, b)), wanted, (a, b))
                self.assertEqual(not bars_wanted(real(a, b)), wanted)
                for k in (1, 2, 5):
                    divided = ray_of((a, b, 0, -b), 2 * k)
                    self.assertIs(is_a_size(divided), wanted)

    def test_all_rays_of_a_size(self):
        for a in range(17):
            for b in range(-12, 13):
                numbers = sorted(self.by_size.get((a, b), []))
                self.assertEqual(rays_with_size(real(a, b)), [own + (0,) for own in numbers])
                for k in (1, 2, 3):
                    divided = ray_of((a, b, 0, -b), 2 * k)
                    found = rays_with_size(divided)
                    self.assertEqual(found, sorted(ray_of(own, k) for own in numbers))
                    self.assertTrue(all(has_size(ray, divided) for ray in found))
                halved = ray_of((a, b, 0, -b), 1)
                doubled = ray_product(real(a, b), real(0, 1))
                if doubled[0] <= 16 and a:
                    wanted = [ray_of(own, 1) for own in self.by_size.get((doubled[0], doubled[1]), [])]
                    self.assertEqual(rays_with_size(halved), sorted(wanted))
        self.assertEqual(rays_with_size(ZERO), [ZERO])
        self.assertEqual(rays_with_size(real(-3, 0)), [])

    def test_sixty_and_sixty_one(self):
        draw = drawn.rng(4)
        for b in (0, 1, 2, 10, -7, 42):
            found = rays_with_size(real(60, b))
            self.assertEqual(found, sorted(set(found)))
            self.assertTrue(all(size_of(ray) == real(60, b) for ray in found))
            with self.assertRaises(TooMany):
                rays_with_size(real(61, b))
        self.assertEqual(bool(rays_with_size(real(60, 0))), is_a_size(real(60, 0)))
        for own, raises in (((15, 1, 0, -1, 4), False), ((61, 0, 0, 0, 2), True), ((30, 1, 0, -1, 0), False),
                            ((1, 30, 0, -30, 1), False), ((1, 31, 0, -31, 1), True), ((10 ** 5, 0, 0, 0, 0), True),
                            ((-100, 1, 0, -1, 0), False), ((59, 10 ** 6, 0, -10 ** 6, 0), False)):
            if raises:
                with self.assertRaises(TooMany):
                    rays_with_size(own)
            else:
                self.assertIsInstance(rays_with_size(own), list)
        for _ in range(30):
            ray = drawn.ray(draw, 3, 8)
            found = rays_with_size(size_of(ray))
            self.assertIn(ray, found)
            self.assertEqual(len(found) % 8, 0)

    def test_a_ray_of_a_size(self):
        seen = set()
        for own in reals(5):
            bars = bars_wanted(own)
            seen.update([bar[0] for bar in bars] or ["none"])
            self.assertIs(is_a_size(own), not bars)
            if bars:
                with self.assertRaises(NoPaper):
                    ray_of_size(own)
                self.assertIn(size_bar(own), bars)
                self.assertEqual(size_bar(own), size_bar(own))
            else:
                ray = ray_of_size(own)
                self.assertTrue(is_ray(ray))
                self.assertEqual(exact.size(exact.value(ray)), exact.value(own))
                self.assertEqual(ray_of_size(own), ray)
                self.assertIs(has_size(ray, own), True)
                with self.assertRaises(NoPaper):
                    size_bar(own)
        self.assertEqual(seen, {"below", "twin", "prime", "none"})

    def test_large_sizes(self):
        draw = drawn.rng(6)
        many = 0
        for _ in range(300):
            a, k = draw.randint(2000, 31000), draw.randint(0, 8)
            own = ray_of((a, draw.randint(-a // 2, a // 2), 0, 0), 0)
            own = real(own[0], own[1], k)
            if abs(real_norm(own)) <= 10 ** 9 and is_a_size(own):
                many += 1
                self.assertEqual(size_of(ray_of_size(own)), own)
        self.assertTrue(many > 20)
        # Units: far from its twin, but of a small norm.
        far = ONE
        for _ in range(30):
            far = ray_product(far, real(3, 2))
            units = [far, ray_product(far, real(3, 0)), ray_product(far, real(5, 2)), ray_product(far, real(2, 1, 5))]
            for own in units + [twin_of(unit) for unit in units]:
                self.assertEqual(is_a_size(own), not bars_wanted(own))
                if is_a_size(own):
                    self.assertEqual(size_of(ray_of_size(own)), own)

    def test_which_have_a_size(self):
        draw = drawn.rng(7)
        for _ in range(40):
            ray = drawn.ray(draw, 20, 8)
            self.assertIs(has_size(ray, size_of(ray)), True)
            self.assertIs(has_size(turned_ray(ray, 3), size_of(ray)), True)
            self.assertIs(has_size(ray, ray_sum(size_of(ray), ONE)), False)
        self.assertIs(has_size(ZERO, ZERO), True)
        self.assertIs(has_size(ONE, ZERO), False)
        self.assertIs(has_size([0, 0, 0, 1, 0], [1, 0, 0, 0, 0]), True)
        for thing in drawn.things() + [(2, 0, 0, 0, 2), (True, 0, 0, 0, 0), "1", None, (1, 0, 0, 0, 0, 0)]:
            self.assertIs(has_size(thing, ONE), repr(thing) == "[1, 0, 0, 0, 0]", thing)

    def test_which_bar(self):
        for own in reals(8, 60, 30):
            bars = bars_wanted(own)
            for thing in bars:
                self.assertIs(is_size_bar(own, thing), True)
                self.assertIs(is_size_bar(own, list(thing)), False)
                self.assertIs(is_size_bar(own, thing + (0,)), False)
            for p in (3, 7, 17, 23, 31, 9, 49):
                for r in range(p if p < 40 else 12):
                    for often in (0, 1, 2, 3):
                        self.assertIs(is_size_bar(own, ("prime", p, r, often)), ("prime", p, r, often) in bars)
            for word in ("below", "twin"):
                self.assertIs(is_size_bar(own, (word,)), (word,) in bars)
        self.assertIs(is_size_bar(real(7, 0), ("prime", 7, 3, 1)), True)
        self.assertIs(is_size_bar(real(-7, 0), ("prime", 7, 4, 1)), True)
        self.assertIs(is_size_bar(real(-7, 0), ("twin",)), True)

    def test_things_of_every_kind_are_no_bars(self):
        own = real(7, 0)
        more = [["prime", 7, 3, 1], ("prime", 7, 3, True), ("prime", 7, 3), ("prime", 7, 3, 1, 0), ("prime", "7", 3, 1), ("prime", 7, 3, None),
                ("Prime", 7, 3, 1), (7, 3, 1), "prime", ("prime", (7, 3), 1), ("prime", 7, -4, 1), ("prime", 7, 10, 1), ("below",),
                ("prime", 10 ** 40, 3, 1), (["prime"], 7, 3, 1), ("prime", [7], 3, 1), ("twin",), "twin"]
        for thing in drawn.things() + more:
            self.assertIs(is_size_bar(own, thing), False, thing)
            self.assertIs(is_size_bar(ZERO, thing), False, thing)
            self.assertIs(is_fill_bar((TOPS,), 2, thing), False, thing)
            self.assertIs(is_fill_bar((TOPS,), 1, thing), False, thing)
        self.assertIs(is_size_bar(real(-1, 0), ("below",)), True)
        self.assertIs(is_size_bar(real(-1, 0), "below"), False)
        self.assertIs(is_size_bar(real(-1, 0), ["below"]), False)
        self.assertIs(is_size_bar(real(-1, 0), ("below", 0)), False)


class Fills(unittest.TestCase):
    def given(self, seed, many=150):
        draw = drawn.rng(seed)
        found = [(), (ONE,), (HALF,), (HALF, LESS), (ZERO,), (ZERO,) * 3, (TOPS,), ((1, 1, 1, 0, 3),), ((-1, 1, 0, -1, 0),), (ONE, ONE),
                 ((1, 0, 0, 0, 8),) * 3, ((1, 1, 0, 0, 2),)]
        for _ in range(many):
            most, k = draw.choice(((1, 4), (2, 6), (5, 8), (9, 8)))
            found.append(tuple(drawn.ray(draw, most, k) for _ in range(draw.randint(1, 3))))
        return found

    def left_wanted(self, rays):
        return exact.plus(exact.number(1), *[exact.times(exact.number(-1), exact.size(exact.value(ray))) for ray in rays])

    def test_what_is_left(self):
        for rays in self.given(9) + [((240, -240, 240, 240, 8),)]:
            left = size_left(rays)
            self.assertTrue(is_ray(left) and left[2] == 0 and left[1] == -left[3])
            self.assertEqual(exact.value(left), self.left_wanted(rays))
        self.assertEqual(size_left(()), ONE)

    def test_filled_or_barred_never_both(self):
        seen = set()
        for rays in self.given(10):
            left = size_left(rays)
            if too_many(left):
                continue
            for many in (1, 2, 3, 4):
                bars = [bar for bar in bars_wanted(left) if many == 1 or bar[0] != "prime"]
                seen.add((many > 1, bars[0][0] if bars else None))
                self.assertIs(can_fill(rays, many), not bars)
                for bar in bars_wanted(left):
                    self.assertIs(is_fill_bar(rays, many, bar), bar in bars)
                if bars:
                    self.assertIn(fill_bar(rays, many), bars)
                    with self.assertRaises(NoPaper):
                        filled_by(rays, many)
                else:
                    found = filled_by(rays, many)
                    self.assertTrue(isinstance(found, tuple) and len(found) == many and all(is_ray(ray) for ray in found))
                    self.assertEqual(self.left_wanted(rays + found), exact.number(0))
                    self.assertIs(is_filled_by(rays, many, found), True)
                    self.assertEqual(filled_by(rays, many), found)
                    with self.assertRaises(NoPaper):
                        fill_bar(rays, many)
        self.assertTrue({(False, None), (True, None), (False, "prime"), (False, "below"), (True, "below"), (True, "twin")} <= seen, seen)

    def test_two_do_wherever_no_sign_bars(self):
        many = barred = 0
        for k in range(12):
            for a, b in itertools.product(range(1, 2 ** (k // 2) + 1), range(-9, 10)):
                left = real(a, b, k)
                rest = ray_sum(ONE, turned_ray(left, 4))
                if min(signs(left) + signs(rest)) >= 0 and is_a_size(rest):
                    rays = (ray_of_size(rest),)
                    self.assertEqual(size_left(rays), left)
                    many += 1
                    barred += bool(bars_wanted(left))
                    self.assertEqual(self.left_wanted(rays + filled_by(rays, 2)), exact.number(0))
        self.assertTrue(many > 50 and barred > 10, (many, barred))

    def test_other_rays_are_right_too(self):
        rays = (HALF,)
        for thing, many in (((HALF,), 1), (((0, 1, 0, 0, 1),), 1), ((ZERO, LESS), 2), (((1, 0, 0, 0, 2), (0, 0, 1, 0, 2)), 2)):
            self.assertIs(is_filled_by(rays, many, thing), True)
            self.assertIs(is_filled_by(rays, many + 1, thing), False)
            self.assertIs(is_filled_by(rays, many, list(thing)), False)
            self.assertIs(is_filled_by(rays, many, tuple(list(ray) for ray in thing)), False)
            self.assertIs(is_filled_by(rays + (ONE,), many, thing), False)
        for thing in drawn.things() + [((2, 0, 0, 0, 3),), (((1, 0, 0, 0, 10 ** 18)),), ((1, 0, 0, 0, 10 ** 18),), (ONE,), (None,), HALF,
                                       (True,), ((True, 0, 0, 0, 1),), ("HALF",), (HALF, ZERO)]:
            self.assertIs(is_filled_by(rays, 1, thing), False, thing)
        self.assertIs(is_filled_by((ONE,), 1, (ZERO,)), True)
        self.assertIs(is_filled_by((), 1, (W,)), True)
        self.assertIs(is_filled_by((), 4, (W, ZERO, ZERO, ZERO)), True)

    def test_tables(self):
        seen = set()
        for rays in self.given(11):
            for ray in rays:
                left = size_left((ray,))
                if too_many(left):
                    continue
                seen.add(not bars_wanted(left))
                if bars_wanted(left):
                    with self.assertRaises(NoPaper):
                        table_with(ray)
                else:
                    table = table_with(ray)
                    self.assertTrue(is_table(table) and len(table) == 2 and is_upright(table))
                    self.assertEqual(table[0][0], ray)
                    self.assertTrue(exact.upright(exact.table_values(table)))
                    self.assertIs(is_table_with(ray, table), True)
                    self.assertIs(is_table_with(ray, table[::-1]), table[1][0] == ray)
                    self.assertIs(is_table_with(ray, [list(row) for row in table]), False)
                    self.assertEqual(table_with(ray), table)
        self.assertEqual(seen, {True, False})

    def test_which_tables_are_such(self):
        draw = drawn.rng(12)
        for length in range(12):
            table = circuit_table((1, tuple((draw.choice("HTSX"), 0) for _ in range(length))))
            self.assertIs(is_table_with(table[0][0], table), True)
            self.assertIs(is_table_with(ray_sum(table[0][0], ONE), table), False)
        far = (1, 0, 0, 0, 10 ** 18)
        three = drawn.still(3)
        for thing in drawn.things() + [three, ((ONE, ONE), (ZERO, ONE)), ((HALF, HALF), (HALF, HALF)), ((ONE, far), (far, ONE)), ONE,
                                       ((ONE, ZERO), (ZERO, (True, 0, 0, 0, 0))), ((ONE, ZERO), [ZERO, ONE])]:
            self.assertIs(is_table_with(ONE, thing), False, thing)
        self.assertIs(is_table_with(ONE, drawn.still(2)), True)
        self.assertIs(is_table_with([1, 0, 0, 0, 0], drawn.still(2)), True)


class Bounds(unittest.TestCase):
    def nearest(self, step):
        """The real RAY with the norm nearest to 10 ** 9 from above, from below: no norm is just this number."""
        norm = 10 ** 9
        while True:
            norm += step
            odd = norm // (norm & -norm)
            if not any(odd % p == 0 and odd % (p * p) for p in (3, 5, 11, 13, 19, 29, 37, 43)):
                for b in range(16000):
                    a = math.isqrt(norm + 2 * b * b)
                    if a * a - 2 * b * b == norm:
                        return real(a, b)

    def test_just_so_many(self):
        just, above = self.nearest(-1), self.nearest(1)
        self.assertTrue(10 ** 9 - 100 < real_norm(just) < 10 ** 9 < real_norm(above) < 10 ** 9 + 100)
        # Times 1 + root the norm is below 0 and, without sign, the same.
        for own, other in ((just, above), (ray_product(just, real(1, 1)), ray_product(above, real(1, 1)))):
            self.assertEqual((abs(real_norm(own)), abs(real_norm(other))), (real_norm(just), real_norm(above)))
            self.assertEqual(primes_of(own), primes_wanted(own))
            self.assertIs(is_a_size(own), not bars_wanted(own))
            self.assertIs(is_size_bar(own, None), False)
            for function, *args in ((primes_of,), (is_a_size,), (ray_of_size,), (size_bar,), (is_size_bar, None), (is_size_bar, ("twin",))):
                with self.assertRaises(TooMany):
                    function(other, *args)
            self.assertEqual(prime_often(other, (3, 0)), often_wanted(other, (3, 0)))

    def test_too_many_ahead_of_no_paper(self):
        far = (240, 1, 0, 0, 0)
        self.assertTrue(too_many(size_left((far,))))
        for many in (1, 2, 4):
            for function, *args in ((can_fill,), (filled_by,), (fill_bar,), (is_fill_bar, None), (is_fill_bar, ("below",))):
                with self.assertRaises(TooMany):
                    function((far,), many, *args)
        with self.assertRaises(TooMany):
            table_with(far)
        self.assertIs(is_table_with(far, drawn.still(2)), False)
        self.assertIs(is_filled_by((far,), 1, (ONE,)), False)
        for own in (real(-10 ** 5, 0), real(0, 10 ** 5)):
            for function in (ray_of_size, size_bar, is_a_size):
                with self.assertRaises(TooMany):
                    function(own)
        self.assertIs(has_size((10 ** 5, 0, 0, 0, 0), real(10 ** 10, 0)), True)


if __name__ == "__main__":
    unittest.main()
