"""Told: what sights of a machine tell of its TABLE, and which sights clash."""

from eighthturns.errors import NoPaper, Unfit
from eighthturns.made import table_from
from eighthturns.rays import ONE, ZERO, ray_product, rays_added, size_of, turned_ray
from eighthturns.shapes import frozen, is_below
from eighthturns.tables import (is_table, is_upright, made_of, mirror_product, table_mirrored, table_product,
                                turns_to)


def bases_of(sights):
    """The numbers of the bases; Unfit if some other state is not made of theirs."""
    states = [state for state, _ in sights]
    bases = []
    for number, state in enumerate(states):
        if all([mirror_product(states[base], state) == ZERO for base in bases]):
            bases.append(number)
    for number, state in enumerate(states):
        sizes = [size_of(mirror_product(states[base], state)) for base in bases]
        if number not in bases and rays_added(sizes) != ONE:
            raise Unfit()
    return bases


def products_of(sights, one, other):
    """The pair of the products of the states and of the ends of two sights."""
    return (mirror_product(sights[one][0], sights[other][0]), mirror_product(sights[one][1], sights[other][1]))


def are_a_clash(sights, numbers):
    """Whether these numbers of sights, two or more, all unlike, are a CLASH."""
    if len(numbers) == 2:
        start, end = products_of(sights, numbers[0], numbers[1])
        return turns_to((start,), (end,)) is None
    starts, ends = ONE, ONE
    for one, other in zip(numbers, numbers[1:] + numbers[:1]):
        start, end = products_of(sights, one, other)
        starts, ends = ray_product(starts, start), ray_product(ends, end)
    return starts != ends


def least_pair(sights):
    """The least CLASH of two, or None."""
    for one in range(len(sights)):
        for other in range(one + 1, len(sights)):
            if are_a_clash(sights, (one, other)):
                return (one, other)
    return None


def ways_from(sights, first):
    """For each sight that others lead to from the first, neighbours' states with products not 0, such a way."""
    ways = {first: (first,)}
    ahead = [first]
    while len(ahead) > 0:
        one = ahead.pop(0)
        for other in range(len(sights)):
            if other not in ways and products_of(sights, one, other)[0] != ZERO:
                ways[other] = ways[one] + (other,)
                ahead.append(other)
    return ways


def ring_of(way, other):
    """The ring of two ways from one sight, without what they have in common but where they part."""
    shared = 0
    while shared < min(len(way), len(other)) and way[shared] == other[shared]:
        shared += 1
    return way[shared - 1:] + other[shared:][::-1]


def all_ways(sights):
    """The list of the ways from the first sight of all that are joined by ways, for each such."""
    found = []
    for first in range(len(sights)):
        if all([first not in ways for ways in found]):
            found.append(ways_from(sights, first))
    return found


def first_clash(sights):
    """A CLASH, or None; Unfit first."""
    bases_of(sights)
    pair = least_pair(sights)
    if pair is not None:
        return pair
    for ways in all_ways(sights):
        for one in ways:
            for other in ways:
                # All rings of neighbours are made of these: if none of these clashes, none does.
                ring = ring_of(ways[one], ways[other])
                if one < other and len(ring) > 2 and are_a_clash(sights, ring):
                    return ring
    return None


def end_turns(sights):
    """For each sight the pair (first, turns): how often its end is turned if that of the first one is not."""
    found = {}
    for first_ways in all_ways(sights):
        for number in first_ways:
            way = first_ways[number]
            turns = 0
            if len(way) > 1:
                start, end = products_of(sights, way[-2], number)
                turns = found[way[-2]][1] - turns_to((start,), (end,))
            found[number] = (way[0], turns)
    return found


def frames_of(sights, bases, turns):
    """The pair of upright TABLES with the states of the bases, and their ends, turned, as first columns."""
    many = len(sights[0][0])
    ends = [tuple([turned_ray(ray, turns[base][1]) for ray in sights[base][1]]) for base in bases]
    return table_from([sights[base][0] for base in bases], many), table_from(ends, many)


def fit_for(sights):
    """A FIT of the SIGHTS."""
    own = frozen(sights)
    if first_clash(own) is not None:
        raise NoPaper()
    starts, ends = frames_of(own, bases_of(own), end_turns(own))
    return table_product(ends, table_mirrored(starts))


def is_fit(sights, thing):
    """Whether thing is a FIT of the SIGHTS."""
    own = frozen(sights)
    bases_of(own)
    if not is_table(thing) or len(thing) != len(own[0][0]) or not is_upright(thing):
        return False
    return all([turns_to(end, made_of(thing, state)) is not None for state, end in own])


def clash_of(sights):
    """A CLASH of the SIGHTS."""
    clash = first_clash(frozen(sights))
    if clash is None:
        raise NoPaper()
    return clash


def is_clash(sights, thing):
    """Whether thing is a CLASH of the SIGHTS."""
    own = frozen(sights)
    bases_of(own)
    if not isinstance(thing, tuple) or len(thing) < 2:
        return False
    if not all([is_below(number, len(own)) for number in thing]) or len(set(thing)) < len(thing):
        return False
    return (len(thing) > 2 or thing[0] < thing[1]) and are_a_clash(own, thing)


def groups_of(bases, turns, many):
    """The list of the groups of columns of which each keeps its own turn, and the columns that keep nothing."""
    groups = {}
    for column, base in enumerate(bases):
        groups.setdefault(turns[base][0], []).append(column)
    free = list(range(len(bases), many))
    # A single column that no sight tells of can but be turned.
    if len(free) == 1:
        return list(groups.values()) + [free], []
    return list(groups.values()), free


def part_of(row, place, columns):
    """What these columns bring of place to row."""
    return mirror_product([place[column] for column in columns], [row[column] for column in columns])


def sure_size(row, place, groups, free):
    """The size of the RAY of this row of the ends, this one of the states, in all FITS; None if there is no such."""
    loose = [[own[column] for column in free if own[column] != ZERO] for own in (row, place)]
    if len(loose[0]) > 0 and len(loose[1]) > 0:
        return None
    parts = [part for part in [part_of(row, place, columns) for columns in groups] if part != ZERO]
    if len(parts) > 1:
        return None
    return size_of(parts[0]) if len(parts) == 1 else ZERO


def sure_sizes(sights):
    """For each RAY the size that it has in all FITS, or None."""
    own = frozen(sights)
    if first_clash(own) is not None:
        raise NoPaper()
    bases, turns = bases_of(own), end_turns(own)
    starts, ends = frames_of(own, bases, turns)
    groups, free = groups_of(bases, turns, len(starts))
    return tuple([tuple([sure_size(row, place, groups, free) for place in starts]) for row in ends])
