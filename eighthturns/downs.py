"""Private: DEEDS that bring STATES down to a single 1, power by power."""

from eighthturns.deeds import deeds_done
from eighthturns.rays import eighth_of, over_root, root_divides, turned_ray


def power_of(rays):
    """The greatest k of these RAYS."""
    return max([ray[4] for ray in rays])


def whole_rays(rays):
    """Each RAY times root, so often that all are just whole."""
    power = power_of(rays)
    return [over_root(ray, -power) for ray in rays]


def kind_of(ray):
    """The kind, 0, 1 or 2, of a whole RAY."""
    if root_divides(ray[:4]):
        return 0
    return 1 if sum(ray[:4]) % 2 == 1 else 2


def pairs_alike(rays):
    """The list of the pairs of places with RAYS of one kind, not 0."""
    kinds = [kind_of(ray) for ray in whole_rays(rays)]
    return [(i, j) for i in range(len(kinds)) for j in range(i + 1, len(kinds))
            if kinds[i] == kinds[j] and kinds[i] != 0]


def differ_by_rest(one, other, rest):
    """Whether the numbers of both whole RAYS all have differences of this rest by 2."""
    return all([(left - right) % 2 == rest for left, right in zip(one[:4], other[:4])])


def mate_of(rays):
    """Places i, j and turns m of j: a mix behind these brings the RAYS of a STATE nearer to whole."""
    wholes = whole_rays(rays)
    pairs = pairs_alike(rays)
    # Rest 0: 2 divides sum and difference, and both RAYS come down at once.
    # If no pair does, two of kind 1 are left, and rest 1 makes them two of
    # kind 2, of which there is always a pair that does. Turns and 4 more make
    # the same but for a swap: those are tried that are fewer on the way back.
    for rest in (0, 1):
        for i, j in pairs:
            for turns in (0, 7, 6, 5):
                if differ_by_rest(wholes[i], turned_ray(wholes[j], turns), rest):
                    return i, j, turns
    return None


def deeds_to_whole(state):
    """DEEDS that make all RAYS of the STATE whole."""
    deeds = []
    while power_of(state) > 0:
        i, j, turns = mate_of(state)
        step = [("turn", j)] * turns + [("mix", i, j)]
        state = deeds_done(state, step)
        deeds.extend(step)
    return deeds


def deeds_to_places(states):
    """DEEDS that bring whole STATES, all unlike, to those with 1 at 0, 1, .. alone."""
    deeds = []
    for number in range(len(states)):
        eighths = [eighth_of(ray) for ray in states[number]]
        place = [at for at, eighth in enumerate(eighths) if eighth is not None][0]
        step = [("turn", place)] * (-eighths[place] % 8)
        if place != number:
            step.append(("swap", number, place))
        states = [deeds_done(state, step) for state in states]
        deeds.extend(step)
    return deeds


def deeds_down(columns):
    """DEEDS that bring STATES, any two with product 0, to those with 1 at 0, 1, .. alone."""
    deeds = []
    states = list(columns)
    left = list(range(len(states)))
    while left:
        # The plainest one first: the powers of the others grow least by it.
        number = min([(power_of(states[at]), at) for at in left])[1]
        step = deeds_to_whole(states[number])
        states = [deeds_done(state, step) for state in states]
        deeds.extend(step)
        left.remove(number)
    return tuple(deeds + deeds_to_places(states))
