"""Fills: which real RAYS are sizes, and which RAYS can be filled up to a STATE."""

from eighthturns.errors import NoPaper, TooMany
from eighthturns.primes import norm_of, often_by, primes_by
from eighthturns.rays import ONE, ZERO, is_ray, mirrored, rays_added, size_of, turned_ray
from eighthturns.shapes import frozen, is_number
from eighthturns.sizes import (all_with_size, is_size, prime_bars, ray_with_size, sign_bars, two_with_sizes,
                               whole_parts)
from eighthturns.tables import is_table, is_upright, sizes_make_one

MOST_NORM = 1000000000
MOST_WHOLE = 60


def real_parts(real):
    """The parts of the real RAY."""
    return real[0], real[1], real[4]


def real_norm(real):
    """The norm of the real RAY."""
    return norm_of(real[0], real[1])


def check_norm(real):
    """Raise TooMany if the norm of the real RAY is too great."""
    if abs(real_norm(real)) > MOST_NORM:
        raise TooMany()


def prime_often(real, prime):
    """How often the PRIME divides the real RAY, not 0."""
    return often_by(real[0], real[1], prime)


def primes_of(real):
    """The list, ascending, of the pairs (PRIME, often) of those that divide the real RAY, not 0."""
    check_norm(real)
    return primes_by(real[0], real[1])


def is_a_size(real):
    """Whether some RAY has this size."""
    check_norm(real)
    return is_size(frozen(real))


def ray_of_size(real):
    """A RAY of this size."""
    if not is_a_size(real):
        raise NoPaper()
    return ray_with_size(frozen(real))


def has_size(ray, real):
    """Whether this is the size of ray."""
    own = frozen(ray)
    return is_ray(own) and size_of(own) == frozen(real)


def bars_of_left(real, many):
    """The list of what bars so many RAYS from having sizes that come to real."""
    bars = sign_bars(real)
    return bars + prime_bars(real) if many == 1 else bars


def size_bar(real):
    """A SIZE BAR of the real RAY."""
    return first_bar(frozen(real), 1)


def first_bar(real, many):
    """The first of the bars for so many RAYS."""
    check_norm(real)
    bars = bars_of_left(real, many)
    if len(bars) == 0:
        raise NoPaper()
    return bars[0]


def is_size_bar(real, thing):
    """Whether thing is a SIZE BAR of the real RAY."""
    return is_bar_among(frozen(real), 1, thing)


def is_bar_among(real, many, thing):
    """Whether thing is one of the bars for so many RAYS."""
    check_norm(real)
    if not isinstance(thing, tuple) or not all([is_number(part) for part in thing[1:]]):
        return False
    return thing in bars_of_left(real, many)


def rays_with_size(real):
    """The list, ascending, of all RAYS of this size."""
    if whole_parts(real)[0] > MOST_WHOLE:
        raise TooMany()
    return [ZERO] if frozen(real) == ZERO else all_with_size(real)


def size_left(rays):
    """1 less all sizes of these RAYS."""
    return rays_added([ONE] + [turned_ray(size_of(ray), 4) for ray in rays])


def can_fill(rays, many):
    """Whether these RAYS can be filled up by so many."""
    left = size_left(rays)
    check_norm(left)
    return len(bars_of_left(left, many)) == 0


def filled_by(rays, many):
    """A tuple of so many RAYS by which these are filled up."""
    if not can_fill(rays, many):
        raise NoPaper()
    left = size_left(rays)
    if many == 1:
        return (ray_with_size(left),)
    return two_with_sizes(left) + (ZERO,) * (many - 2)


def is_filled_by(rays, many, thing):
    """Whether thing is a tuple of so many RAYS by which these are filled up."""
    if not isinstance(thing, tuple) or len(thing) != many or not all([is_ray(ray) for ray in thing]):
        return False
    return sizes_make_one(frozen(rays) + thing)


def fill_bar(rays, many):
    """A FILL BAR of these RAYS, to be filled up by so many."""
    return first_bar(size_left(rays), many)


def is_fill_bar(rays, many, thing):
    """Whether thing is a FILL BAR of these RAYS, to be filled up by so many."""
    return is_bar_among(size_left(rays), many, thing)


def table_with(ray):
    """An upright TABLE of two rows with this RAY in the first row, at the first place."""
    one = frozen(ray)
    other = filled_by((one,), 1)[0]
    return ((one, other), (turned_ray(mirrored(other), 4), mirrored(one)))


def is_table_with(ray, thing):
    """Whether thing is an upright TABLE of two rows with this RAY in the first row, at the first place."""
    if not is_table(thing) or len(thing) != 2:
        return False
    return thing[0][0] == frozen(ray) and is_upright(thing)
