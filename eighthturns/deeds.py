"""Deeds: turns, swaps and mixes, done one behind another."""

from eighthturns.errors import NoPaper, NoPlace
from eighthturns.gates import GATE_PAIRS, GATE_TURNS, check_wires, pairs_of, places_with
from eighthturns.rays import mixed_rays, turned_ray
from eighthturns.shapes import are_below, frozen, is_below
from eighthturns.tables import columns_of, still_table


def is_deed(many, thing):
    """Whether thing is a DEED for so many places."""
    if not isinstance(thing, tuple) or len(thing) == 0:
        return False
    if thing[0] == "turn":
        return are_below(thing[1:], many, 1)
    if thing[0] == "swap" or thing[0] == "mix":
        return are_below(thing[1:], many, 2) and thing[1] < thing[2]
    return False


def are_deeds(many, thing):
    """Whether thing is DEEDS for so many places."""
    return isinstance(thing, tuple) and all([is_deed(many, part) for part in thing])


def check_places(many, deeds):
    """Raise NoPlace for the first place of these DEEDS that is none of so many."""
    for deed in deeds:
        for place in deed[1:]:
            if not 0 <= place < many:
                raise NoPlace(place)


def rows_behind(rows, deed):
    """The rows, one a place, behind this DEED on each of their columns."""
    behind = list(rows)
    i, j = deed[1], deed[-1]
    if deed[0] == "turn":
        behind[i] = tuple([turned_ray(ray, 1) for ray in rows[i]])
    elif deed[0] == "swap":
        behind[i], behind[j] = rows[j], rows[i]
    else:
        pairs = [mixed_rays(one, other) for one, other in zip(rows[i], rows[j])]
        behind[i] = tuple([one for one, _ in pairs])
        behind[j] = tuple([other for _, other in pairs])
    return tuple(behind)


def rows_behind_all(rows, deeds):
    """The rows behind all these DEEDS."""
    for deed in deeds:
        rows = rows_behind(rows, deed)
    return rows


def tables_behind(many, deeds):
    """The list of the TABLES behind 0, 1, .. of these DEEDS."""
    tables = [still_table(many)]
    for deed in deeds:
        tables.append(rows_behind(tables[-1], deed))
    return tables


def deed_done(state, deed):
    """The STATE behind the DEED."""
    return deeds_done(state, (deed,))


def deeds_done(state, deeds):
    """The STATE behind all DEEDS."""
    check_places(len(state), deeds)
    rows = tuple([(ray,) for ray in frozen(state)])
    return columns_of(rows_behind_all(rows, deeds))[0]


def deeds_table(many, deeds):
    """The TABLE of DEEDS."""
    check_places(many, deeds)
    return rows_behind_all(still_table(many), deeds)


def deeds_back(deeds):
    """The DEEDS in the other order, each turn seven times."""
    back = []
    for deed in frozen(deeds)[::-1]:
        back.extend([deed] * (7 if deed[0] == "turn" else 1))
    return tuple(back)


def deeds_of_gate(n, gate):
    """The DEEDS of this GATE of n wires."""
    word, wires = gate[0], gate[1:]
    check_wires(n, wires)
    if word in GATE_PAIRS:
        return tuple([(GATE_PAIRS[word], i, j) for i, j in pairs_of(n, wires)])
    turns = [("turn", place) for place in places_with(n, wires) for _ in range(GATE_TURNS[word])]
    return tuple(turns)


def deeds_of_circuit(circuit):
    """The DEEDS of its GATES, one behind another."""
    n, gates = circuit
    return tuple([deed for gate in gates for deed in deeds_of_gate(n, gate)])


def deed_counts(deeds):
    """How many turns, swaps, mixes they are."""
    words = [deed[0] for deed in deeds]
    return words.count("turn"), words.count("swap"), words.count("mix")


def plain_deeds(deeds):
    """The DEEDS less two equal neighbours that swap or mix, and less eight that turn."""
    left = []
    for deed in frozen(deeds):
        left.append(deed)
        # Whichever neighbours are left out first, the same is left at the end.
        many = 8 if deed[0] == "turn" else 2
        if left[-many:] == [deed] * many:
            del left[-many:]
    return tuple(left)


def first_idle(many, deeds):
    """The least pair between which the DEEDS leave each STATE, or None."""
    check_places(many, deeds)
    tables = tables_behind(many, deeds)
    found = None
    next_at = {}
    for first in range(len(tables) - 1, -1, -1):
        if tables[first] in next_at:
            found = (first, next_at[tables[first]])
        next_at[tables[first]] = first
    return found


def is_idle_stretch(many, deeds, thing):
    """Whether thing is a pair between which the DEEDS leave each STATE."""
    check_places(many, deeds)
    if not are_below(thing, len(deeds) + 1, 2) or thing[0] >= thing[1]:
        return False
    stretch = deeds[thing[0]:thing[1]]
    return rows_behind_all(still_table(many), stretch) == still_table(many)


def without_idle(many, deeds):
    """What is left when, as long as there is one, first_idle is left out."""
    check_places(many, deeds)
    tables = tables_behind(many, deeds)
    last_at = {table: at for at, table in enumerate(tables)}
    left = []
    # To leave out the first idle stretches from here, one by one, is to go on
    # from the last time that this same TABLE comes up.
    at = last_at[tables[0]]
    while at < len(deeds):
        left.append(frozen(deeds[at]))
        at = last_at[tables[at + 1]]
    return tuple(left)


def starts_behind(many, deeds):
    """What the DEEDS make of the STATES with 1 at one place alone, place by place."""
    return columns_of(deeds_table(many, deeds))


def parting_start(many, one, other):
    """The least place from which one and other lead to STATES that are not equal."""
    ones, others = starts_behind(many, one), starts_behind(many, other)
    for place in range(many):
        if ones[place] != others[place]:
            return place
    raise NoPaper()


def is_parting_start(many, one, other, thing):
    """Whether thing is a place from which one and other lead to unequal STATES."""
    ones, others = starts_behind(many, one), starts_behind(many, other)
    return is_below(thing, many) and ones[thing] != others[thing]
