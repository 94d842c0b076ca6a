"""States: their powers and kinds, and DEEDS that lead from one to another."""

from eighthturns.deeds import are_deeds, deed_done, deeds_done, plain_deeds
from eighthturns.downs import deeds_down, kind_of, pairs_alike, power_of, whole_rays
from eighthturns.errors import Unfit
from eighthturns.made import deeds_up
from eighthturns.rays import mixed_rays, size_of, turned_ray, twin_of
from eighthturns.shapes import frozen
from eighthturns.tables import are_rays, mirror_product, sizes_make_one, turns_to


def is_state(thing):
    """Whether thing is a STATE."""
    return are_rays(thing) and sizes_make_one(thing)


def sizes_of(state):
    """The sizes of the RAYS."""
    return tuple([size_of(ray) for ray in state])


def state_power(state):
    """The greatest k of the RAYS."""
    return power_of(state)


def kinds_of(state):
    """The kinds of the RAYS, each times root, power times."""
    return tuple([kind_of(ray) for ray in whole_rays(state)])


def pair_alike(state):
    """The least pair of places with RAYS of one kind, not 0; None if the power is 0."""
    if state_power(state) == 0:
        return None
    return pairs_alike(state)[0]


def mates_down(state):
    """The set of the (i, j, m) such that a mix behind m turns of j brings both down."""
    power = state_power(state)
    places = range(len(state))
    pairs = [(i, j) for i in places for j in places if i < j and max(state[i][4], state[j][4]) == power]
    return tuple([(i, j, turns) for i, j in pairs for turns in range(4)
                  if power_of(mixed_rays(state[i], turned_ray(state[j], turns))) < power])


def deeds_to(state):
    """DEEDS that lead to the state from the one with 1 at place 0."""
    return deeds_up((frozen(state),))


def check_places_alike(one, other):
    """Raise Unfit if both have not as many RAYS."""
    if len(one) != len(other):
        raise Unfit()


def deeds_between(one, other):
    """DEEDS that lead from one to other."""
    check_places_alike(one, other)
    return plain_deeds(deeds_down((frozen(one),)) + deeds_to(other))


def is_leading(one, other, thing):
    """Whether thing is DEEDS that lead from one to other."""
    check_places_alike(one, other)
    return are_deeds(len(one), thing) and deeds_done(one, thing) == frozen(other)


def mixes_within(state, most):
    """The least number of mixes that lead to the state from a single 1; None if it is above most."""
    for many in range(most + 1):
        if is_within(frozen(state), many):
            return many
    return None


def is_within(state, many):
    """Whether so many mixes lead to the state from a single 1."""
    power = state_power(state)
    # A mix brings the power down by one at most.
    if power == 0 or power > many:
        return power == 0
    return any([is_within(ahead, many - 1) for ahead in states_ahead(state)])


def states_ahead(state):
    """What one mix makes of the state, but for turns and swaps behind it."""
    ahead = []
    for j in range(len(state)):
        turned = state
        for _ in range(4):
            ahead.extend([deed_done(turned, ("mix", i, j)) for i in range(j)])
            turned = deed_done(turned, ("turn", j))
    return ahead


def product_of(one, other):
    """The product of both STATES, a RAY."""
    check_places_alike(one, other)
    return mirror_product(frozen(one), frozen(other))


def like_states(one, other):
    """How many turns of each RAY make other of one, or None."""
    check_places_alike(one, other)
    return turns_to(one, frozen(other))


def twin_state(state):
    """The STATE of the twins of the RAYS."""
    return tuple([twin_of(ray) for ray in state])
