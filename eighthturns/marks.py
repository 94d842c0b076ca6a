"""Marks: what parities and eighths make, told by MARKED MAPS, MARKS and TURNS."""

from eighthturns.errors import NoPaper, NoPlace
from eighthturns.maps import (are_marks, check_few, check_maps, eighths_at, gates_of_map, is_marked_map, least_sum,
                              led_to, map_of_circuit, maps_back, maps_put, marks_with_sums, same_maps, sums_of,
                              times_of, wires_of_marks, wires_of_turns)
from eighthturns.rays import turned_ray
from eighthturns.shapes import frozen, is_below, is_number
from eighthturns.tables import columns_of, unit_state


def is_marked(thing):
    """Whether thing is a MARKED MAP."""
    return is_marked_map(thing)


def place_led(marked, place):
    """The pair of the place behind and of the eighths by which its RAY is turned."""
    check_few(len(marked[1]))
    if not 0 <= place < 1 << len(marked[1]):
        raise NoPlace(place)
    return led_to(marked, place)


def marked_table(marked):
    """The TABLE that the MARKED MAP makes."""
    check_few(len(marked[1]))
    many = 1 << len(marked[1])
    led = [led_to(marked, place) for place in range(many)]
    return columns_of([turned_state(unit_state(many, behind), eighths) for behind, eighths in led])


def turned_state(state, eighths):
    """The STATE with each RAY turned so many times."""
    return tuple([turned_ray(ray, eighths) for ray in state])


def marked_of(circuit):
    """The MARKED MAP of the CIRCUIT, GATE by GATE."""
    check_few(circuit[0])
    return map_of_circuit(circuit)


def marked_put(one, other):
    """The MARKED MAP of one, then other."""
    check_maps(one, other)
    return maps_put(one, other)


def marked_back(marked):
    """The MARKED MAP with which put behind it all is as it was."""
    check_few(len(marked[1]))
    return maps_back(marked)


def marked_alike(one, other):
    """Whether both make the same of each STATE."""
    check_maps(one, other)
    return same_maps(one, other)


def uneven_sum(marks):
    """The SUM of the least wires."""
    check_few(wires_of_marks(marks))
    found = least_sum(marks)
    if found is None:
        raise NoPaper()
    return found


def is_uneven_sum(marks, thing):
    """Whether thing is a SUM of these MARKS."""
    check_few(wires_of_marks(marks))
    if not is_wires_and_number(thing):
        return False
    return thing[1] != 0 and thing in sums_of(marks)


def is_wires_and_number(thing):
    """Whether thing is a pair of a tuple of numbers and a number."""
    return isinstance(thing, tuple) and len(thing) == 2 and are_numbers(thing[0]) and is_number(thing[1])


def are_numbers(thing):
    """Whether thing is a tuple of numbers."""
    return isinstance(thing, tuple) and all([is_number(part) for part in thing])


def turns_of(marks):
    """The TURNS of these MARKS."""
    check_few(wires_of_marks(marks))
    return tuple([eighths_at(marks, place) for place in range(len(marks) + 1)])


def polynomial_of(turns):
    """The list of the pairs (wires, times), times not 0, few wires first."""
    check_few(wires_of_turns(turns))
    return [(wires, times) for wires, times in times_of(turns) if times != 0]


def plain_marks(marks):
    """The plain MARKS that turn alike."""
    check_few(wires_of_marks(marks))
    return marks_with_sums(wires_of_marks(marks), sums_of(marks))


def turns_barred(wires, times):
    """Whether no turn and MARKS turn so many times by just these wires."""
    if len(wires) < 2:
        return False
    # Parities of more wires bring in 2, 4, 8 .. times as many eighths.
    return times % (1 << min(len(wires) - 1, 3)) != 0


def bars_of_turns(turns):
    """The list of the wires that show that no turn and MARKS turn so."""
    return [wires for wires, times in polynomial_of(turns) if turns_barred(wires, times)]


def marks_seen(turns):
    """The pair of a turn and plain MARKS that turns so."""
    if len(bars_of_turns(turns)) > 0:
        raise NoPaper()
    sums = []
    for wires, times in times_of(turns):
        if 1 <= len(wires) <= 3:
            # Two wires alike turn by 2 less than both, three by 4 more than all and each two.
            sums.append((wires, (times, -times // 2, times // 4)[len(wires) - 1]))
    return turns[0], marks_with_sums(wires_of_turns(turns), sums)


def is_marks_seen(turns, thing):
    """Whether thing is a pair (turn, MARKS) that turns so."""
    n = wires_of_turns(turns)
    check_few(n)
    if not isinstance(thing, tuple) or len(thing) != 2:
        return False
    turn, marks = thing
    if not is_below(turn, 8) or not are_marks(n, marks):
        return False
    return tuple([(turn + eighths) % 8 for eighths in turns_of(marks)]) == frozen(turns)


def bar_of_turns(turns):
    """The least wires that show that no turn and MARKS turn so."""
    bars = bars_of_turns(turns)
    if len(bars) == 0:
        raise NoPaper()
    return bars[0]


def is_turns_bar(turns, thing):
    """Whether thing is wires that show that no turn and MARKS turn so."""
    bars = bars_of_turns(turns)
    return are_numbers(thing) and thing in bars


def circuit_of_marked(marked):
    """A CIRCUIT of which this is the MARKED MAP, with as many T as marks are odd."""
    check_few(len(marked[1]))
    return len(marked[1]), gates_of_map(marked)
