"""Rays: numbers made of eighths of a turn and of root, told in just one way."""

from eighthturns.errors import Unfit
from eighthturns.shapes import is_number

ZERO = (0, 0, 0, 0, 0)
ONE = (1, 0, 0, 0, 0)


def root_divides(numbers):
    """Whether the whole RAY of these four numbers is root times a whole one."""
    a, b, c, d = numbers
    return (a + c) % 2 == 0 and (b + d) % 2 == 0


def times_root(numbers, many):
    """The four numbers of a whole RAY multiplied by root so many times."""
    if many == 0:
        return tuple(numbers)
    twos = many // 2
    a, b, c, d = numbers
    if many % 2 == 1:
        a, b, c, d = b - d, a + c, b + d, c - a
    return a << twos, b << twos, c << twos, d << twos


def is_ray(thing):
    """Whether thing is a RAY."""
    if not isinstance(thing, tuple) or len(thing) != 5:
        return False
    if not all([is_number(part) for part in thing]):
        return False
    return thing[4] == 0 or (thing[4] > 0 and not root_divides(thing[:4]))


def ray_of(numbers, k):
    """The RAY of these four numbers, divided by root k times."""
    a, b, c, d = numbers
    while k > 0 and root_divides((a, b, c, d)):
        # Divided by root is multiplied by root and halved.
        a, b, c, d = (b - d) // 2, (a + c) // 2, (b + d) // 2, (c - a) // 2
        k -= 1
    return (a, b, c, d, k)


def rays_added(rays):
    """The sum of these RAYS."""
    k = max([ray[4] for ray in rays], default=0)
    a = b = c = d = 0
    for ray in rays:
        e, f, g, h = times_root(ray[:4], k - ray[4])
        a, b, c, d = a + e, b + f, c + g, d + h
    return ray_of((a, b, c, d), k)


def ray_sum(one, other):
    """The sum of both."""
    return rays_added((one, other))


def ray_product(one, other):
    """The product of both."""
    a, b, c, d, k = one
    e, f, g, h, m = other
    numbers = (
        a * e - b * h - c * g - d * f,
        a * f + b * e - c * h - d * g,
        a * g + b * f + c * e - d * h,
        a * h + b * g + c * f + d * e,
    )
    return ray_of(numbers, k + m)


def turned_ray(ray, many):
    """The RAY times w so many times; below 0 the other way."""
    a, b, c, d, k = ray
    for _ in range(many % 8):
        a, b, c, d = -d, a, b, c
    return (a, b, c, d, k)


def mixed_rays(one, other):
    """The pair of what a mix makes of two RAYS."""
    k = max(one[4], other[4])
    a, b, c, d = times_root(one[:4], k - one[4])
    e, f, g, h = times_root(other[:4], k - other[4])
    return ray_of((a + e, b + f, c + g, d + h), k + 1), ray_of((a - e, b - f, c - g, d - h), k + 1)


def mirrored(ray):
    """The mirror: w to the seventh for w."""
    a, b, c, d, k = ray
    return (a, -d, -c, -b, k)


def twin_of(ray):
    """The twin: w to the fifth for w, and so 0 less root for root."""
    a, b, c, d, k = ray
    if k % 2 == 1:
        return (-a, b, -c, d, k)
    return (a, -b, c, -d, k)


def size_of(ray):
    """The size: the RAY times its mirror."""
    return ray_product(ray, mirrored(ray))


def is_real(ray):
    """Whether the RAY is its own mirror."""
    return ray[2] == 0 and ray[1] == -ray[3]


def sign_of(ray):
    """1, 0 or -1, as the real RAY is above 0, is 0, is below 0."""
    if not is_real(ray):
        raise Unfit()
    # a + b root goes as a does against 0 less b root, and squares keep that.
    squares = ray[0] * abs(ray[0]) + 2 * ray[1] * abs(ray[1])
    if squares == 0:
        return 0
    return 1 if squares > 0 else -1


def over_root(ray, many):
    """The RAY divided by root so many times; below 0 multiplied."""
    k = ray[4] + many
    if k >= 0:
        return ray_of(ray[:4], k)
    return ray_of(times_root(ray[:4], -k), 0)


def rest_of(ray, k):
    """The rests by 2 of a + c and of b + d of the RAY times root k times."""
    if ray[4] > k:
        raise Unfit()
    a, b, c, d = times_root(ray[:4], k - ray[4])
    return (a + c) % 2, (b + d) % 2


def eighth_of(ray):
    """The number from 0 to 7 of the power of w that the RAY is, or None."""
    for many in range(8):
        if turned_ray(ONE, many) == tuple(ray):
            return many
    return None
