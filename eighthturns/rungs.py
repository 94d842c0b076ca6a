"""Rungs: what TABLES lead FLIPS to, and the LADDERS that bar a TABLE from a rung."""

from eighthturns.errors import NoPaper
from eighthturns.maps import maps_back, maps_put, marked_from, parity, still_maps, sums_of
from eighthturns.rays import ZERO, eighth_of, turned_ray
from eighthturns.shapes import are_below, frozen
from eighthturns.tables import table_mirrored, table_product, unit_state


def flips_of_wires(n):
    """The list of all FLIPS of n wires, ascending."""
    return [(x, z) for x in range(1 << n) for z in range(1 << n)]


def flips_enough(n):
    """FLIPS of n wires of which all others are made, but for turns."""
    return [(bit, 0) for bit in still_maps(n)] + [(0, bit) for bit in still_maps(n)]


def wires_of_table(table):
    """How many wires the TABLE has."""
    return len(table).bit_length() - 1


def flip_table(n, flip):
    """The TABLE of the FLIP of n wires."""
    x, z = flip
    rows = [unit_state(1 << n, row ^ x) for row in range(1 << n)]
    return tuple([tuple([turned_ray(ray, 4 * parity(place, z)) for place, ray in enumerate(row)]) for row in rows])


def flip_of(table):
    """The pair (turn, flip) such that the TABLE is that of flip, each RAY turned so many times; None."""
    turns = [eighth_of(row[0]) for row in table]
    places = [place for place, turn in enumerate(turns) if turn is not None]
    if len(places) == 0:
        return None
    x = places[0]
    back = tuple([tuple([turned_ray(ray, -turns[x]) for ray in row]) for row in table])
    for z in range(len(table)):
        if back == flip_table(wires_of_table(table), (x, z)):
            return (turns[x], (x, z))
    return None


def flips_put(one, other):
    """The like pair for the TABLE of one times that of other."""
    return 4 * parity(one[1], other[0]), (one[0] ^ other[0], one[1] ^ other[1])


def led(table, flip):
    """The TABLE of flip led by this one."""
    return table_product(table_product(table, flip_table(wires_of_table(table), flip)), table_mirrored(table))


def led_all(table, ladder):
    """The last that comes, the first FLIP led by table, each next one by what came."""
    for flip in ladder:
        table = led(table, flip)
    return table


def is_on_rung(table, rung):
    """Whether the TABLE is on this rung, 1 to 3."""
    if rung == 1:
        return flip_of(table) is not None
    # What is led of two FLIPS, multiplied, is led of their product, and TABLES
    # of rung 1, of rung 2, multiplied, stay there: so these few FLIPS tell all.
    for flip in flips_enough(wires_of_table(table)):
        if not is_on_rung(led(table, flip), rung - 1):
            return False
    return True


def flips_kept(table):
    """The set of the FLIPS led to rung 1."""
    return tuple([flip for flip in flips_of_wires(wires_of_table(table)) if is_on_rung(led(table, flip), 1)])


def first_unkept(table):
    """The least FLIP that is not led to rung 1, or None."""
    for flip in flips_of_wires(wires_of_table(table)):
        if not is_on_rung(led(table, flip), 1):
            return flip
    return None


def rung_of(table):
    """The least rung, 1 to 3, that the TABLE is on, or None."""
    for rung in (1, 2, 3):
        if is_on_rung(table, rung):
            return rung
    return None


def rungs_row(table):
    """How many FLIPS are led onto rung 1, 2, 3."""
    rungs = [rung_of(led(table, flip)) for flip in flips_of_wires(wires_of_table(table))]
    return rungs.count(1), rungs.count(1) + rungs.count(2), len(rungs) - rungs.count(None)


def least_ladder(table, rung):
    """The least LADDER that bars the TABLE from this rung, or None."""
    if is_on_rung(table, rung):
        return None
    if rung == 1:
        return ()
    for flip in flips_of_wires(wires_of_table(table)):
        ladder = least_ladder(led(table, flip), rung - 1)
        if ladder is not None:
            return (flip,) + ladder
    return None


def rung_bar(table, rung):
    """The least LADDER that bars the TABLE from this rung."""
    ladder = least_ladder(table, rung)
    if ladder is None:
        raise NoPaper()
    return ladder


def is_ladder(n, rung, thing):
    """Whether thing is a LADDER of n wires for this rung."""
    if not isinstance(thing, tuple) or len(thing) != rung - 1:
        return False
    return all([are_below(flip, 1 << n, 2) for flip in thing])


def is_rung_bar(table, rung, thing):
    """Whether thing is a LADDER that bars the TABLE from this rung."""
    if not is_ladder(wires_of_table(table), rung, thing):
        return False
    return not is_on_rung(led_all(table, thing), 1)


def steered(table):
    """The TABLE of two wires that does at wire 1 what this one does, if wire 0 has 1."""
    upper = [unit_state(4, 0), unit_state(4, 1)]
    return tuple(upper + [(ZERO, ZERO) + row for row in frozen(table)])


def flip_map(n, flip):
    """The MARKED MAP of the FLIP of n wires."""
    x, z = flip
    return marked_from(still_maps(n), x, [4 if y == z and y > 0 else 0 for y in range(1 << n)])


def marked_led(marked, flip):
    """A MARKED MAP of flip led by this one."""
    ahead = maps_put(maps_back(marked), flip_map(len(marked[1]), flip))
    return maps_put(ahead, marked)


def is_flip_map(marked):
    """Whether the MARKED MAP is on rung 1."""
    _, maps, _, marks = marked
    if tuple(maps) != still_maps(len(maps)):
        return False
    return all([rest in (0, 4) if len(wires) == 1 else rest == 0 for wires, rest in sums_of(marks)])


def first_unkept_by(marked):
    """The least FLIP that the MARKED MAP does not lead to rung 1, or None."""
    # With x 0 a FLIP only turns places, by 4, by a parity, and is led to such a
    # one again; so z makes no difference to any other, and the least has z 0.
    for x in range(1 << len(marked[1])):
        if not is_flip_map(marked_led(marked, (x, 0))):
            return (x, 0)
    return None


def rung_of_marked(marked):
    """The least rung that the MARKED MAP is on."""
    if is_flip_map(marked):
        return 1
    return 2 if first_unkept_by(marked) is None else 3


def marked_bar(marked, rung):
    """The least LADDER that bars the MARKED MAP from rung 1 or 2."""
    if is_flip_map(marked):
        raise NoPaper()
    if rung == 1:
        return ()
    flip = first_unkept_by(marked)
    if flip is None:
        raise NoPaper()
    return (flip,)


def is_marked_bar(marked, rung, thing):
    """Whether thing is a LADDER that bars the MARKED MAP from this rung."""
    if not is_ladder(len(marked[1]), rung, thing):
        return False
    for flip in thing:
        marked = marked_led(marked, flip)
    return not is_flip_map(marked)


def quarters_many(n):
    """How many TABLES of n wires are on rung 2, of like ones just one."""
    many = 1 << (n * n + 2 * n)
    for j in range(1, n + 1):
        many *= (1 << 2 * j) - 1
    return many
