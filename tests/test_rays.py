"""[4]: rays.py, against another way to reckon."""

import decimal
import unittest

import drawn
import exact
from eighthturns.errors import Unfit
from eighthturns.rays import (eighth_of, is_ray, is_real, mirrored, over_root, ray_of, ray_product, ray_sum,
                              rest_of, sign_of, size_of, turned_ray, twin_of)

ZERO, ONE, W, ROOT, SLOPE = drawn.ZERO, drawn.ONE, (0, 1, 0, 0, 0), (0, 1, 0, -1, 0), drawn.HALF
BIG = 10 ** 12
EDGES = [ZERO, ONE, W, ROOT, SLOPE, (-1, 0, 0, 0, 0), (1, 0, 0, 0, 40), (1, 1, 0, 0, 40), (BIG, BIG, BIG, BIG, 0),
         (BIG, BIG - 1, -BIG, -BIG, 40), (-BIG, 0, 1 - BIG, BIG, 39), (1, 1, 1, 0, 1), (1, 1, 0, 0, 2)]


def rays(seed, many=150, most=40, k=7):
    draw = drawn.rng(seed)
    big = [drawn.ray(draw, BIG, 40) for _ in range(20)]
    return EDGES + big + [drawn.ray(draw, most, k) for _ in range(many)]


def pairs(seed):
    draw = drawn.rng(seed)
    ones = rays(seed)
    return [(one, draw.choice(ones)) for one in ones]


class Shapes(unittest.TestCase):
    def test_rays_are_rays(self):
        for ray in rays(1):
            self.assertIs(is_ray(ray), True)
        for ray in ((0, 0, 0, 0, 0), (2, 0, 2, 0, 0), (10 ** 50, 1, 0, 0, 10 ** 9), (0, 0, 0, 1, 1), (-1, 1, 0, 0, 3)):
            self.assertIs(is_ray(ray), True)

    def test_not_the_least_k_is_none(self):
        for a in range(-2, 3):
            for b in range(-2, 3):
                for c in range(-2, 3):
                    for d in range(-2, 3):
                        told = (a + c) % 2 == 1 or (b + d) % 2 == 1
                        self.assertIs(is_ray((a, b, c, d, 0)), True)
                        self.assertIs(is_ray((a, b, c, d, 1)), told)
                        self.assertIs(is_ray((a, b, c, d, 50)), told)
                        self.assertIs(is_ray((a, b, c, d, -1)), False)

    def test_things_of_every_kind_are_none(self):
        for thing in drawn.things():
            self.assertIs(is_ray(thing), False, thing)
        for place in range(5):
            for part in (True, False, None, "1", (1,), [1]):
                thing = tuple([part if at == place else at % 2 for at in range(5)])
                self.assertIs(is_ray(thing), False, thing)


class OneWayToTell(unittest.TestCase):
    def test_ray_of_finds_the_least_k(self):
        draw = drawn.rng(2)
        for _ in range(400):
            numbers, k = drawn.numbers(draw, draw.choice((3, 100, BIG))), draw.randint(0, 40)
            ray = ray_of(numbers, k)
            self.assertTrue(is_ray(ray))
            self.assertEqual(exact.value(ray), exact.value((*numbers, k)))
            self.assertTrue(ray[4] <= k)
        self.assertEqual(ray_of((0, 0, 0, 0), 40), ZERO)
        self.assertEqual(ray_of((0, 0, 0, 0), 0), ZERO)
        self.assertEqual(ray_of((2 ** 20, 0, 0, 0), 40), ONE)
        self.assertEqual(ray_of((BIG, -BIG, BIG, -BIG), 0), (BIG, -BIG, BIG, -BIG, 0))

    def test_a_ray_is_told_by_itself(self):
        for ray in rays(3):
            self.assertEqual(ray_of(ray[:4], ray[4]), ray)

    def test_what_is_equal_is_told_alike(self):
        for ray in rays(4):
            for many in range(6):
                raised = over_root(over_root(ray, -many), many)
                self.assertEqual(raised, ray)
                self.assertEqual(over_root(over_root(ray, many), -many), ray)


class Reckoning(unittest.TestCase):
    def test_sums_and_products(self):
        for one, other in pairs(5):
            total, product = ray_sum(one, other), ray_product(one, other)
            self.assertTrue(is_ray(total) and is_ray(product))
            self.assertEqual(exact.value(total), exact.plus(exact.value(one), exact.value(other)))
            self.assertEqual(exact.value(product), exact.times(exact.value(one), exact.value(other)))
            self.assertEqual((ray_sum(other, one), ray_product(other, one)), (total, product))

    def test_nought_and_one(self):
        for ray in rays(6):
            self.assertEqual((ray_sum(ray, ZERO), ray_product(ray, ONE), ray_product(ray, ZERO)), (ray, ray, ZERO))
            self.assertEqual(ray_sum(ray, turned_ray(ray, 4)), ZERO)

    def test_turned(self):
        for ray in rays(7, 40):
            for many in list(range(-17, 18)) + [-40, 40]:
                turned = turned_ray(ray, many)
                self.assertTrue(is_ray(turned))
                self.assertEqual(exact.value(turned), exact.times(exact.value(ray), exact.power_of_w(many)))
            self.assertEqual(turned_ray(ray, 0), ray)
            self.assertEqual(turned_ray(turned_ray(ray, 5), -5), ray)

    def test_over_root(self):
        for ray in rays(8, 40):
            for many in (-40, -13, -2, -1, 0, 1, 2, 13, 40):
                told = over_root(ray, many)
                self.assertTrue(is_ray(told))
                self.assertEqual(exact.value(told), exact.times(exact.value(ray), exact.power_of_root(-many)))
            self.assertEqual(over_root(ray, 0), ray)
        self.assertEqual(over_root(ZERO, 40), ZERO)
        self.assertEqual(over_root(ONE, -3), (0, 2, 0, -2, 0))

    def test_mirror_and_twin(self):
        for one, other in pairs(9):
            for made, wanted in ((mirrored, exact.mirror), (twin_of, exact.twin)):
                self.assertTrue(is_ray(made(one)))
                self.assertEqual(exact.value(made(one)), wanted(exact.value(one)))
                self.assertEqual(made(made(one)), one)
                self.assertEqual(made(ray_sum(one, other)), ray_sum(made(one), made(other)))
                self.assertEqual(made(ray_product(one, other)), ray_product(made(one), made(other)))

    def test_sizes(self):
        for one, other in pairs(10):
            size = size_of(one)
            self.assertEqual(exact.value(size), exact.size(exact.value(one)))
            self.assertIs(is_real(size), True)
            self.assertEqual((sign_of(size), sign_of(twin_of(size))), (0, 0) if one == ZERO else (1, 1))
            self.assertEqual(size_of(ray_product(one, other)), ray_product(size, size_of(other)))


class RealOnes(unittest.TestCase):
    def test_real_is_its_own_mirror(self):
        for ray in rays(11):
            mirror_is_it = exact.mirror(exact.value(ray)) == exact.value(ray)
            self.assertIs(is_real(ray), mirror_is_it)
        draw = drawn.rng(11)
        for _ in range(60):
            self.assertIs(is_real(drawn.real_ray(draw)), True)

    def test_signs(self):
        draw = drawn.rng(12)
        decimal.getcontext().prec = 60
        root = decimal.Decimal(2).sqrt()
        # (p, q) with p by q as near root as can be: the signs that are the hardest to tell.
        near = [(1, 1), (3, 2), (7, 5), (17, 12), (470832, 332929), (665857, 470832), (131836323, 93222358)]
        drawn_ones = [(draw.randint(-50, 50), draw.randint(-50, 50)) for _ in range(300)]
        for a, b in drawn_ones + near + [(BIG, -BIG), (-BIG, BIG), (0, BIG), (-BIG, 0)]:
            for x, y in ((a, b), (a, -b), (-a, b), (-a, -b)):
                number = x + y * root
                wanted = (number > 0) - (number < 0)
                self.assertEqual(sign_of((x, y, 0, -y, 0)), wanted)
                if x % 2:
                    self.assertEqual(sign_of((x, y, 0, -y, 1)), wanted)
                    self.assertEqual(sign_of((x, y, 0, -y, 40)), wanted)
        self.assertEqual(sign_of(ZERO), 0)

    def test_unreal_have_no_sign(self):
        for ray in (W, (0, 0, 1, 0, 0), (1, 1, 0, 0, 0), (0, 1, 0, 1, 0), (1, 0, 1, 0, 0), (1, 0, 0, 1, 3), (0, 0, 0, 1, 0)):
            with self.assertRaises(Unfit):
                sign_of(ray)


class RestsAndEighths(unittest.TestCase):
    def test_rests(self):
        for ray in rays(13):
            for k in range(ray[4], min(ray[4] + 4, 41)):
                whole = over_root(ray, -k)
                self.assertEqual(rest_of(ray, k), ((whole[0] + whole[2]) % 2, (whole[1] + whole[3]) % 2))
                self.assertEqual(rest_of(ray, k) == (0, 0), over_root(whole, 1)[4] == 0)
            for k in range(ray[4]):
                with self.assertRaises(Unfit):
                    rest_of(ray, k)
        self.assertEqual((rest_of(ZERO, 0), rest_of(ZERO, 40), rest_of(ONE, 0)), ((0, 0), (0, 0), (1, 0)))

    def test_eighths(self):
        for many, ray in enumerate(drawn.EIGHTHS):
            self.assertEqual(eighth_of(ray), many)
            self.assertEqual(turned_ray(ONE, many), ray)
        for ray in rays(14):
            wanted = drawn.EIGHTHS.index(ray) if ray in drawn.EIGHTHS else None
            self.assertEqual(eighth_of(ray), wanted)
        for ray in (ZERO, SLOPE, ROOT, (2, 0, 0, 0, 0), (1, 0, 1, 0, 0), (1, 1, 0, 0, 2)):
            self.assertIsNone(eighth_of(ray))


if __name__ == "__main__":
    unittest.main()
