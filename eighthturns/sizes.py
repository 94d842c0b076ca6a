"""Private: which real RAYS are sizes, and RAYS of given sizes."""

from math import isqrt

from eighthturns.primes import primes_by
from eighthturns.rays import (ZERO, over_root, ray_of, ray_product, ray_sum, sign_of, size_of, times_root, turned_ray,
                              twin_of)

# 1 + root, and what times it is 1.
UNIT = (1, 1, 0, -1, 0)
UNIT_BACK = (-1, 1, 0, -1, 0)


def whole_parts(real):
    """The triple (a, b, m): real times 2 to the m is a + b root, m half of k, rounded up."""
    m = (real[4] + 1) // 2
    a, b, _, _ = times_root(real[:4], 2 * m - real[4])
    return a, b, m


def sign_bars(real):
    """The list of the SIZE BARS of real of the first two kinds."""
    return [(word,) for word, own in (("below", real), ("twin", twin_of(real))) if sign_of(own) < 0]


def prime_bars(real):
    """The list of the SIZE BARS of real with a PRIME."""
    if real == ZERO:
        return []
    return [("prime", p, r, often) for (p, r), often in primes_by(real[0], real[1])
            if p % 8 == 7 and often % 2 == 1]


def is_size(real):
    """Whether some RAY has this size."""
    return len(sign_bars(real)) == 0 and len(prime_bars(real)) == 0


def numbers_from(a, c, whole, roots):
    """The list of the numbers (a, b, c, d), a not 0, of a whole RAY of the size whole + roots root: of one or none."""
    # b and d lie on a straight line and, with the sizes as they are, on a circle.
    left, right = a + c, c - a
    across = left * left + right * right
    square = (whole - a * a - c * c) * across - roots * roots
    if square < 0:
        return []
    # Where they meet a second time, the other way along the line, is left out:
    # turned once, that RAY has other a and c, from which it lies this way.
    along = isqrt(square)
    b, d = roots * left + along * right, roots * right - along * left
    if along * along != square or b % across != 0 or d % across != 0:
        return []
    return [(a, b // across, c, d // across)]


def numbers_with(a, whole, roots):
    """The numbers, with this first one, above 0, and the third not below 0, of whole RAYS of this size."""
    return [numbers for c in range(isqrt(whole - a * a) + 1) for numbers in numbers_from(a, c, whole, roots)]


def all_with_size(real):
    """The list, ascending, of all RAYS of this size, not 0."""
    whole, roots, m = whole_parts(real)
    found = {}
    for a in range(1, isqrt(max(whole, 0)) + 1):
        for numbers in numbers_with(a, whole, roots):
            # Each RAY has a turn with the first number above 0, the third not below it.
            for many in range(8):
                found[turned_ray(ray_of(numbers, m), many)] = True
    return sorted(list(found))


def balanced(whole, roots):
    """The triple (whole, roots, steps): the same, divided so many times by the size of 1 + root, with roots small."""
    steps = 0
    while 2 * abs(roots) > whole:
        side = 1 if roots > 0 else -1
        whole, roots = 3 * whole - 4 * side * roots, 3 * roots - 2 * side * whole
        steps += side
    return whole, roots, steps


def times_unit(ray, steps):
    """The RAY times 1 + root so many times; below 0 divided."""
    for _ in range(abs(steps)):
        ray = ray_product(ray, UNIT if steps > 0 else UNIT_BACK)
    return ray


def ray_with_size(real):
    """A RAY of this size, if it is one."""
    if real == ZERO:
        return ZERO
    whole, roots, m = whole_parts(real)
    whole, roots, steps = balanced(whole, roots)
    for a in range(1, isqrt(whole) + 1):
        found = numbers_with(a, whole, roots)
        if len(found) > 0:
            return times_unit(ray_of(found[0], m), steps)
    return None


def whole_rays(most):
    """The whole RAYS, but for 4 turns, with no number, without sign, above this one."""
    span = list(range(-most, most + 1))
    return [(a, b, c, d, 0) for a in range(most + 1) for b in span for c in span for d in span]


def two_with_sizes(real):
    """Two RAYS with sizes that come together to real, which is not below 0, nor is its twin."""
    whole, roots, m = whole_parts(real)
    # Two whole RAYS do for twice what is whole; whether two do for the same itself is not sure.
    whole, roots, steps = balanced(2 * whole, 2 * roots)
    one, rest = part_and_rest((whole, roots, 0, -roots, 0))
    return tuple([times_unit(over_root(ray, m + 1), steps) for ray in (one, ray_with_size(rest))])


def part_and_rest(real):
    """A whole RAY, and what its size leaves of this whole real RAY, if that is a size."""
    tried = {}
    for most in range(isqrt(real[0]) + 1):
        for ray in whole_rays(most):
            rest = ray_sum(real, turned_ray(size_of(ray), 4))
            if rest not in tried and is_size(rest):
                return ray, rest
            tried[rest] = True
    return None
