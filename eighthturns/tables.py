"""Tables: rows of RAYS, what they make of STATES, and which ones are upright."""

from eighthturns.errors import NoPaper
from eighthturns.rays import ONE, ZERO, is_ray, mirrored, ray_product, rays_added, size_of, turned_ray, twin_of
from eighthturns.shapes import are_below, frozen


def are_rays(thing):
    """Whether thing is a tuple of at least two RAYS."""
    return isinstance(thing, tuple) and len(thing) >= 2 and all([is_ray(part) for part in thing])


def columns_of(rows):
    """The columns, a tuple of tuples; those of the columns are the rows."""
    return tuple([tuple([row[place] for row in rows]) for place in range(len(rows[0]))])


def unit_state(many, place):
    """The STATE of so many places with 1 at this one."""
    return tuple([ONE if at == place else ZERO for at in range(many)])


def products_added(ones, others):
    """The products of the RAYS of both, place by place, added up."""
    return rays_added([ray_product(one, other) for one, other in zip(ones, others)
                       if one != ZERO and other != ZERO])


def mirror_product(ones, others):
    """The product of two tuples of RAYS: the mirrors of the one times the other."""
    return products_added([mirrored(ray) for ray in ones], others)


def sizes_make_one(rays):
    """Whether the sizes of these RAYS come, added up, to 1."""
    bits = sum([sum([part * part for part in ray[:4]]).bit_length() for ray in rays])
    if max([ray[4] for ray in rays]) > bits:
        # Of a ray that small 1 less its size has more ones among its bits
        # than all the others can bring; so no huge power is ever worked out.
        return False
    return rays_added([size_of(ray) for ray in rays]) == ONE


def is_table(thing):
    """Whether thing is a TABLE."""
    if not isinstance(thing, tuple):
        return False
    return len(thing) >= 2 and all([are_rays(row) and len(row) == len(thing) for row in thing])


def still_table(rows):
    """The TABLE of so many rows that leaves all."""
    return tuple([unit_state(rows, row) for row in range(rows)])


def table_product(one, other):
    """What first other makes, then one."""
    columns = columns_of(frozen(other))
    return tuple([tuple([products_added(row, column) for column in columns]) for row in frozen(one)])


def table_power(table, many):
    """The TABLE so many times."""
    power = still_table(len(table))
    square = frozen(table)
    while many > 0:
        if many % 2 == 1:
            power = table_product(power, square)
        many //= 2
        if many > 0:
            square = table_product(square, square)
    return power


def made_of(table, state):
    """The tuple that table makes of state."""
    rays = frozen(state)
    return tuple([products_added(row, rays) for row in frozen(table)])


def table_mirrored(table):
    """The mirrors, rows and columns exchanged."""
    return tuple([tuple([mirrored(ray) for ray in column]) for column in columns_of(table)])


def twin_table(table):
    """The TABLE of the twins."""
    return tuple([tuple([twin_of(ray) for ray in row]) for row in table])


def is_upright(table):
    """Whether each column is a STATE and each two have product 0."""
    columns = columns_of(frozen(table))
    return all([sizes_make_one(column) for column in columns]) and least_slant(columns) is None


def slants(columns, i, j):
    """Whether the columns i and j have another product than those of an upright TABLE."""
    return mirror_product(columns[i], columns[j]) != (ONE if i == j else ZERO)


def least_slant(columns):
    """The least SLANT of the TABLE with these columns, or None."""
    for i in range(len(columns)):
        for j in range(i, len(columns)):
            if slants(columns, i, j):
                return (i, j)
    return None


def slant_of(table):
    """The least SLANT."""
    slant = least_slant(columns_of(frozen(table)))
    if slant is None:
        raise NoPaper()
    return slant


def is_slant(table, thing):
    """Whether thing is a SLANT of table."""
    if not are_below(thing, len(table), 2):
        return False
    i, j = thing
    return i <= j and slants(columns_of(frozen(table)), i, j)


def determinant(table):
    """The determinant, row by row from those of the rows ahead."""
    sums = {0: ONE}
    for row in frozen(table):
        sums = minors_behind(sums, row)
    return sums[(1 << len(table)) - 1]


def minors_behind(minors, row):
    """For each set of columns, told by its bits, the sum that it has with this row, too."""
    parts = {}
    for bits in minors:
        for place, ray in enumerate(row):
            if bits >> place & 1 == 0:
                product = ray_product(minors[bits], ray)
                later = [bits >> other & 1 for other in range(place + 1, len(row))]
                parts.setdefault(bits | 1 << place, []).append(turned_ray(product, 4 * sum(later)))
    return {bits: rays_added(parts[bits]) for bits in parts}


def turns_to(rays, wanted):
    """The least number of turns of each of these RAYS that make wanted of them, or None."""
    for many in range(8):
        if tuple([turned_ray(ray, many) for ray in rays]) == wanted:
            return many
    return None


def like_turn(one, other):
    """The least number of turns of each RAY that make one of other, or None."""
    rays = [ray for row in other for ray in row]
    return turns_to(rays, frozen([ray for row in one for ray in row]))


def beside_tables(one, other):
    """At row i M + k, place j M + l the RAY of one at i, j times that of other at k, l."""
    return tuple([tuple([ray_product(left, right) for left in upper for right in lower])
                  for upper in one for lower in other])
