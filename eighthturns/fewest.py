"""Fewest: how few eighths parities need, by CODE ROWS and how far away they are."""

from math import comb

from eighthturns.circuits import is_circuit
from eighthturns.errors import NoPaper
from eighthturns.maps import (MOST_WIRES, check_few, check_maps, gates_of_map, is_marked_map, least_sum,
                              map_of_circuit, maps_back, maps_put, parity, same_maps, wires_of_marks)
from eighthturns.shapes import are_below, frozen, is_number

MAP_WORDS = ("W", "X", "CX", "T", "S", "Z", "CZ")
# Of 5 wires, found once by going over all odd rows: how many need 0, 1, ..
# eighths, and the least of the hardest ones, its members read as one number.
NEEDS_OF_FIVE = (1, 31, 465, 4495, 31465, 169911, 736281, 2629575, 7490220, 13798100, 8265964, 427924)
HARDEST_OF_FIVE = 463677
# For 1, 2, .. wires: of how many numbers the parities are CODE ROWS, and whether these turned about are, too.
ROW_KINDS = ((1, 1), (1, 1), (1, 1), (1, 2), (32, 2))


def eighths_of(circuit):
    """How many T the CIRCUIT has."""
    return [gate[0] for gate in circuit[1]].count("T")


def odd_row(marks):
    """The odd row of the MARKS."""
    check_few(wires_of_marks(marks))
    return tuple([eighths % 2 for eighths in marks])


def code_rows(wires):
    """The set of the CODE ROWS of so many wires."""
    check_few(wires)
    numbers, abouts = ROW_KINDS[wires - 1]
    rows = [tuple([parity(number, y) ^ about for y in range(1, 1 << wires)])
            for number in range(numbers) for about in range(abouts)]
    return tuple(sorted(rows))


def is_code_row(thing):
    """Whether thing is a CODE ROW of 1 to 5 wires."""
    for wires in range(1, MOST_WIRES + 1):
        if are_below(thing, 2, (1 << wires) - 1):
            return least_sum(thing) is None
    return False


def unlike_many(one, other):
    """At how many members both rows are otherwise."""
    return sum([abs(left - right) for left, right in zip(one, other)])


def eighths_needed(marked):
    """How many eighths the MARKED MAP needs."""
    return min(distances(marked[3]))


def distances(marks):
    """The DISTANCES of the MARKS."""
    odd = odd_row(marks)
    return tuple([unlike_many(odd, row) for row in code_rows(wires_of_marks(marks))])


def is_distances(marks, many, thing):
    """Whether thing is the DISTANCES of the MARKS, and many the least of them."""
    wanted = distances(marks)
    if not isinstance(thing, tuple) or not all([is_number(part) for part in thing]):
        return False
    return thing == wanted and min(wanted) == many


def nearest_rows(marks):
    """The set of the CODE ROWS with the least distance."""
    away = distances(marks)
    rows = code_rows(wires_of_marks(marks))
    return tuple([row for row, own in zip(rows, away) if own == min(away)])


def fewest_marked(marked):
    """The MARKED MAP with the least MARKS that come by taking a nearest row off."""
    turn, maps, flips, marks = frozen(marked)
    fewer = [tuple([(eighths - odd) % 8 for eighths, odd in zip(marks, row)]) for row in nearest_rows(marks)]
    return turn, maps, flips, min(fewer)


def is_fewest(marked, thing):
    """Whether thing is a MARKED MAP that makes the same, with as many odd marks as are needed."""
    needed = eighths_needed(marked)
    if not is_marked_map(thing) or len(thing[1]) != len(marked[1]):
        return False
    return sum(odd_row(thing[3])) == needed and same_maps(marked, thing)


def few_map_of(circuit):
    """The MARKED MAP of the CIRCUIT, of not too many wires."""
    check_few(circuit[0])
    return map_of_circuit(circuit)


def fewest_circuit(circuit):
    """A CIRCUIT that makes the same with as few T as are needed."""
    return circuit[0], gates_of_map(fewest_marked(few_map_of(circuit)))


def is_fewest_circuit(circuit, thing):
    """Whether thing is a CIRCUIT that makes the same with as few T as are needed."""
    marked = few_map_of(circuit)
    if not is_circuit(thing) or thing[0] != circuit[0]:
        return False
    if not all([gate[0] in MAP_WORDS for gate in thing[1]]):
        return False
    return eighths_of(thing) == eighths_needed(marked) and same_maps(marked, map_of_circuit(thing))


def merged_off(circuit):
    """How many T less the CIRCUIT has if all turns at one parity are put together."""
    return eighths_of(circuit) - sum(odd_row(few_map_of(circuit)[3]))


def saved(circuit):
    """How many T less fewest_circuit has."""
    return eighths_of(circuit) - eighths_needed(few_map_of(circuit))


def is_quarter_map(marked):
    """Whether the MARKED MAP needs no eighths."""
    return eighths_needed(marked) == 0


def quarter_circuit(marked):
    """A CIRCUIT without T that makes the same."""
    if not is_quarter_map(marked):
        raise NoPaper()
    return len(marked[1]), gates_of_map(fewest_marked(marked))


def needed_between(one, other):
    """How many eighths a CIRCUIT needs that, put behind one, makes the same as other."""
    check_maps(one, other)
    return eighths_needed(maps_put(maps_back(one), other))


def needs_row(wires):
    """How many odd rows need 0, 1, .. eighths, those that differ by a CODE ROW counted once."""
    check_few(wires)
    if wires == MOST_WIRES:
        return NEEDS_OF_FIVE
    length = (1 << wires) - 1
    # To 3 wires no row but 0 is a CODE ROW. Of 4 wires the one of ones alone
    # is, too: each row is counted with the one that has ones where it has none.
    most = length // 2 if wires == 4 else length
    return tuple([comb(length, many) for many in range(most + 1)])


def needing_many(wires, many):
    """How many odd rows need so many eighths, those that differ by a CODE ROW counted once."""
    needs = needs_row(wires)
    return needs[many] if 0 <= many < len(needs) else 0


def hardest_row(wires):
    """The pair of the most that MARKS can need and the least odd row that does."""
    most = len(needs_row(wires)) - 1
    number = HARDEST_OF_FIVE if wires == MOST_WIRES else (1 << most) - 1
    length = (1 << wires) - 1
    return most, tuple([number >> (length - 1 - at) & 1 for at in range(length)])
