"""Which tables are made: the DEEDS that make one, or what bars it."""

from eighthturns.deeds import are_deeds, deeds_back, deeds_table, plain_deeds
from eighthturns.downs import deeds_down, power_of
from eighthturns.errors import NoPaper, Unfit
from eighthturns.rays import ZERO, eighth_of, is_ray
from eighthturns.shapes import are_below, frozen, is_number
from eighthturns.tables import columns_of, is_table, is_upright, mirror_product, sizes_make_one, unit_state


def is_entry(thing):
    """Whether thing is a pair of a RAY and an odd number from 1."""
    if not isinstance(thing, tuple) or len(thing) != 2:
        return False
    ray, bottom = thing
    return is_ray(ray) and is_number(bottom) and bottom >= 1 and bottom % 2 == 1


def is_given(thing):
    """Whether thing is a GIVEN TABLE."""
    if not isinstance(thing, tuple) or len(thing) < 2:
        return False
    if not all([isinstance(row, tuple) and len(row) == len(thing) for row in thing]):
        return False
    return all([is_entry(entry) for row in thing for entry in row])


def ray_given(entry):
    """The RAY that the entry is, or None."""
    ray, bottom = entry
    if not all([number % bottom == 0 for number in ray[:4]]):
        return None
    # An odd bottom leaves all parities, so the k stays the least one.
    return tuple([number // bottom for number in ray[:4]]) + (ray[4],)


def columns_given(given):
    """The columns of given, each entry told as the RAY that it is, or as None."""
    return columns_of([[ray_given(entry) for entry in row] for row in given])


def rays_given(given):
    """The TABLE that given is."""
    columns = columns_given(given)
    if not all([all_rays(column) for column in columns]):
        raise Unfit()
    return columns_of(columns)


def all_rays(column):
    """Whether each entry of this column is a RAY."""
    return all([ray is not None for ray in column])


def least_bar(columns):
    """The least BAR of the GIVEN TABLE with these columns, or None."""
    many = len(columns)
    for i in range(many):
        for j in range(many):
            if bars(columns, ("odd", i, j)):
                return ("odd", i, j)
    for i in range(many):
        for j in range(i + 1, many):
            if bars(columns, ("pair", i, j)):
                return ("pair", i, j)
    for j in range(many):
        if bars(columns, ("size", j)):
            return ("size", j)
    return None


def bars(columns, bar):
    """Whether what has the shape of a BAR is one."""
    if bar[0] == "odd":
        return columns[bar[2]][bar[1]] is None
    chosen = [columns[place] for place in bar[1:]]
    if not all([all_rays(column) for column in chosen]):
        return False
    if bar[0] == "pair":
        return mirror_product(chosen[0], chosen[1]) != ZERO
    return not sizes_make_one(chosen[0])


def has_bar_shape(many, thing):
    """Whether thing has the shape of a BAR for so many columns."""
    if not isinstance(thing, tuple) or len(thing) == 0:
        return False
    if thing[0] == "odd":
        return are_below(thing[1:], many, 2)
    if thing[0] == "pair":
        return are_below(thing[1:], many, 2) and thing[1] < thing[2]
    return thing[0] == "size" and are_below(thing[1:], many, 1)


def is_made(given):
    """Whether given is the TABLE of some DEEDS."""
    return least_bar(columns_given(given)) is None


def bar_of(given):
    """The least BAR."""
    bar = least_bar(columns_given(given))
    if bar is None:
        raise NoPaper()
    return bar


def is_bar(given, thing):
    """Whether thing is a BAR of given."""
    return has_bar_shape(len(given), thing) and bars(columns_given(given), thing)


def deeds_for(given):
    """DEEDS whose TABLE given is."""
    columns = columns_given(given)
    if least_bar(columns) is not None:
        raise NoPaper()
    return deeds_up(columns)


def deeds_up(columns):
    """DEEDS that lead from the STATES with 1 at 0, 1, .. alone to these."""
    return plain_deeds(deeds_back(deeds_down(columns)))


def is_deeds_for(given, thing):
    """Whether thing is DEEDS whose TABLE given is."""
    many = len(given)
    if not are_deeds(many, thing):
        return False
    return columns_of(deeds_table(many, thing)) == columns_given(given)


def power_chart(table):
    """The k of each RAY, row by row."""
    return tuple([tuple([ray[4] for ray in row]) for row in table])


def least_power(table):
    """The greatest k of the RAYS."""
    return max([power_of(row) for row in table])


def can_begin(columns, many):
    """Whether these are the first columns of an upright TABLE of many places."""
    states = frozen(columns)
    if not all([sizes_make_one(state) for state in states]):
        return False
    return all([mirror_product(states[i], states[j]) == ZERO
                for i in range(len(states)) for j in range(i + 1, len(states))])


def table_from(columns, many):
    """An upright TABLE of many places with these as its first columns."""
    if not can_begin(columns, many):
        raise Unfit()
    return deeds_table(many, deeds_up(frozen(columns)))


def is_table_from(columns, many, thing):
    """Whether thing is an upright TABLE of many places with these as its first columns."""
    if not is_table(thing) or len(thing) != many:
        return False
    return columns_of(thing)[:len(columns)] == frozen(columns) and is_upright(thing)


def blocks(table):
    """The sets into which entries that are not 0 join the places."""
    many = len(table)
    labels = list(range(many))
    for row, rays in enumerate(frozen(table)):
        for column, ray in enumerate(rays):
            if ray != ZERO:
                gone, kept = labels[row], labels[column]
                labels = [kept if label == gone else label for label in labels]
    joined = [tuple([place for place in range(many) if labels[place] == label]) for label in labels]
    return tuple(sorted(set(joined)))


def needed_places(table):
    """The least set of places that DEEDS for the table need to name."""
    # Where a column leaves its place as it is, so does the row, and DEEDS on
    # the other places alone make the rest.
    columns = columns_of(frozen(table))
    return tuple([place for place, column in enumerate(columns)
                  if column != unit_state(len(columns), place)])


def plain_cost(table):
    """The fewest turns and the fewest swaps of DEEDS without a mix that make the table."""
    if least_power(table) > 0:
        raise Unfit()
    # A whole STATE is a power of w at one place, 0 at all others.
    eighths = [[eighth_of(ray) for ray in row] for row in table]
    goals = [[place for place, eighth in enumerate(row) if eighth is not None][0] for row in eighths]
    turns = sum([row[goal] for row, goal in zip(eighths, goals)])
    return turns, len(goals) - rings_many(goals)


def rings_many(goals):
    """In how many rings the places lie if each one leads to its goal."""
    left = list(range(len(goals)))
    many = 0
    while left:
        many += 1
        place = left[0]
        while place in left:
            left.remove(place)
            place = goals[place]
    return many
