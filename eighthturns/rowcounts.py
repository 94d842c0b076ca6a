"""Rowcounts: how many STATES there are of which power, by number, by rests, by sizes."""

from math import comb

from eighthturns.downs import power_of
from eighthturns.errors import Unfit
from eighthturns.rays import ZERO, over_root, ray_of, size_of, turned_ray
from eighthturns.rowsums import numbers_to, rest_of_size, rests_counted, row_counts, size_counts
from eighthturns.shapes import frozen
from eighthturns.sizes import all_with_size


def rays_of_size(a, b):
    """The set of all whole RAYS of the size a + b root."""
    if a == 0 and b == 0:
        return (ZERO,)
    return tuple(all_with_size((a, b, 0, -b, 0)))


def sizes_to(most):
    """The set of the pairs (a, b) that are sizes of whole RAYS, a at most most."""
    return tuple(sorted(list(size_counts(most))))


def states_many(N, k):
    """How many STATES of N places have a power of at most k."""
    return sum([many for _, many in rests_counted(N, k)])


def states_of_power(N, k):
    """How many STATES of N places have the power k."""
    return states_many(N, k) - (states_many(N, k - 1) if k > 0 else 0)


def state_by_number(N, k, number):
    """The STATE of N places with this number at k."""
    if number < 0:
        raise Unfit()
    rays = numbers_to(1 << k)
    a, b = 1 << k, 0
    state = []
    for ahead in row_counts(N, 1 << k)[::-1]:
        for numbers, (c, d) in rays:
            many = ahead.get((a - c, b - d), 0)
            if number < many:
                state.append(ray_of(numbers, k))
                a, b = a - c, b - d
                break
            number -= many
        else:
            raise Unfit()
    return tuple(state)


def rays_at(state, k):
    """The whole RAYS that stand for the STATE at k."""
    if power_of(state) > k:
        raise Unfit()
    return [over_root(ray, -k) for ray in state]


def size_pair(ray):
    """The size of the whole RAY, told as a pair."""
    return size_of(ray)[:2]


def number_of_state(state, k):
    """The number of the STATE at k."""
    own = rays_at(state, k)
    rays = numbers_to(1 << k)
    a, b = 1 << k, 0
    number = 0
    for ray, ahead in zip(own, row_counts(len(own), 1 << k)[::-1]):
        number += sum([ahead.get((a - c, b - d), 0) for numbers, (c, d) in rays if numbers < ray[:4]])
        a, b = a - size_pair(ray)[0], b - size_pair(ray)[1]
    return number


def rests_of(state, k):
    """How many RAYS of the STATE at k have rest 0, 1, 2."""
    rests = [rest_of_size(a, b) for a, b in shape_of(state, k)]
    return rests.count(0), rests.count(1), rests.count(2)


def rests_many(N, k):
    """The set of the pairs of a triple of rests and of how many STATES have it at k."""
    return tuple(sorted(rests_counted(N, k)))


def shapes_of(N, k):
    """The set of the SHAPES of N pairs that come to (2 ** k, 0)."""
    sizes = sizes_to(1 << k)
    return tuple(shapes_from(sizes, {size: at for at, size in enumerate(sizes)}, N, (1 << k, 0), 0))


def shapes_from(sizes, places, many, left, first):
    """The list of rows of so many of the sizes, from the first on, none above the next, that come to what is left."""
    a, b = left
    if many == 1:
        return [(left,)] if places.get(left, -1) >= first else []
    found = []
    for at in range(first, len(sizes)):
        c, d = sizes[at]
        if c * many > a:
            break
        # What no sizes can come to is below 0, or its twin is.
        if 2 * (b - d) * (b - d) <= (a - c) * (a - c):
            rows = shapes_from(sizes, places, many - 1, (a - c, b - d), at)
            found.extend([((c, d),) + row for row in rows])
    return found


def shape_of(state, k):
    """The SHAPE of the RAYS of the STATE at k."""
    return tuple(sorted([size_pair(ray) for ray in rays_at(state, k)]))


def sizes_in(shape):
    """The list of the pairs of each size in the SHAPE and of how often it stands there."""
    return [(size, shape.count(size)) for size in sorted(set(shape))]


def shape_many(shape):
    """Of how many STATES this is the SHAPE."""
    left = len(shape)
    ways = 1
    for (a, b), often in sizes_in(frozen(shape)):
        ways *= comb(left, often)
        left -= often
        for _ in range(often):
            ways *= len(rays_of_size(a, b))
    return ways


def plain_state(state):
    """The least STATE that turns and swaps make of it."""
    return tuple(sorted([min([turned_ray(ray, many) for many in range(8)]) for ray in state]))


def plain_many(N, k):
    """How many plain forms of N places there are of power at most k."""
    many_of = size_counts(1 << k)
    plain = 0
    for shape in shapes_of(N, k):
        ways = 1
        for size, often in sizes_in(shape):
            # Eight RAYS, but for 0, are turns of one another: one of them is plain.
            ways *= comb((many_of[size] + 7) // 8 + often - 1, often)
        plain += ways
    return plain
