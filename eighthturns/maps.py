"""Private: MARKED MAPS and MARKS, of however many wires."""

from eighthturns.errors import TooMany, Unfit
from eighthturns.gates import places_with, wire_bits
from eighthturns.shapes import are_below, frozen

MOST_WIRES = 5
# For one, two and three wires: by what the sums of marks go round.
ROUNDS = (8, 4, 2)
TURN_WORDS = (("T", 1), ("S", 2), ("Z", 4))


def check_few(n):
    """Raise TooMany for more wires than may be asked."""
    if n > MOST_WIRES:
        raise TooMany()


def check_maps(one, other):
    """Raise TooMany, then Unfit, if two MARKED MAPS have too many wires, or not as many."""
    check_few(len(one[1]))
    check_few(len(other[1]))
    if len(one[1]) != len(other[1]):
        raise Unfit()


def parity(y, x):
    """1 if both numbers have a 1 at an odd number of bits, else 0."""
    both = y & x
    odd = 0
    while both > 0:
        both &= both - 1
        odd = 1 - odd
    return odd


def wire_bit(n, wire):
    """The bit of this wire of n."""
    return 1 << (n - 1 - wire)


def wires_at(n, place):
    """The set of the wires of n that have 1 at this place."""
    return tuple([wire for wire in range(n) if place & wire_bit(n, wire) != 0])


def few_first(wires):
    """By what sets of wires are put in order."""
    return len(wires), wires


def wire_sets(n):
    """The list of all sets of wires of n, fewer wires first, then ascending."""
    return sorted([wires_at(n, place) for place in range(1 << n)], key=few_first)


def wires_of_marks(marks):
    """How many wires these MARKS have."""
    return len(marks).bit_length()


def wires_of_turns(turns):
    """How many wires these TURNS have."""
    return len(turns).bit_length() - 1


def are_marks(n, thing):
    """Whether thing is MARKS of n wires."""
    return are_below(thing, 8, (1 << n) - 1)


def are_unlike_parities(maps):
    """Whether no parity of some of these is 0, so that no two places come to one."""
    reduced = []
    for y in maps:
        for other in reduced:
            y = min(y, y ^ other)
        if y == 0:
            return False
        reduced.append(y)
    return True


def is_marked_map(thing):
    """Whether thing is a MARKED MAP."""
    if not isinstance(thing, tuple) or len(thing) != 4:
        return False
    turn, maps, flips, marks = thing
    if not isinstance(maps, tuple) or len(maps) == 0:
        return False
    n = len(maps)
    if not are_below((turn,), 8, 1) or not are_below((flips,), 1 << n, 1) or not are_marks(n, marks):
        return False
    return are_below(maps, 1 << n, n) and are_unlike_parities(maps)


def still_maps(n):
    """The maps that leave each place."""
    return tuple([wire_bit(n, wire) for wire in range(n)])


def held(marked, wanted):
    """The pair (y, about): behind the MARKED MAP the parity of wanted is that of y ahead, turned about or not."""
    _, maps, flips, _ = marked
    y = 0
    for wire in wires_at(len(maps), wanted):
        y ^= maps[wire]
    return y, parity(wanted, flips)


def marked_from(maps, flips, sums):
    """The MARKED MAP with these sums of eighths, round by 8: first its turn, then its marks."""
    rounded = [eighths % 8 for eighths in sums]
    return rounded[0], tuple(maps), flips, tuple(rounded[1:])


def maps_put(one, other):
    """The MARKED MAP of one, then other."""
    turn, _, _, marks = one
    later_turn, maps, flips, later_marks = other
    sums = [turn + later_turn] + list(marks)
    for at, eighths in enumerate(later_marks):
        y, about = held(one, at + 1)
        sums[0] += about * eighths
        sums[y] += (1 - 2 * about) * eighths
    parities = [held(one, own) for own in maps]
    for wire, (_, about) in enumerate(parities):
        flips ^= about * wire_bit(len(maps), wire)
    return marked_from([y for y, _ in parities], flips, sums)


def maps_back(marked):
    """The MARKED MAP with which put behind it all is as it was."""
    turn, maps, flips, marks = marked
    n = len(maps)
    sums = [-turn] + [0] * len(marks)
    wanted_of = {}
    for wanted in range(1, 1 << n):
        y, about = held(marked, wanted)
        wanted_of[y] = wanted
        sums[0] -= about * marks[y - 1]
        sums[wanted] = (2 * about - 1) * marks[y - 1]
    back = [wanted_of[bit] for bit in still_maps(n)]
    turned = [wire for wire in range(n) if parity(back[wire], flips) == 1]
    return marked_from(back, wire_bits(n, turned), sums)


def map_of_gate(n, gate):
    """The MARKED MAP of a GATE of W, X, CX, T, S, Z, CZ."""
    word, wires = gate[0], gate[1:]
    maps, flips, sums = list(still_maps(n)), 0, [0] * (1 << n)
    bits = [wire_bit(n, wire) for wire in wires]
    if word == "W":
        sums[0] = 1
    elif word == "X":
        flips = bits[0]
    elif word == "CX":
        maps[wires[1]] ^= bits[0]
    elif word == "CZ":
        sums[bits[0]] = sums[bits[1]] = 2
        sums[bits[0] ^ bits[1]] = -2
    elif word in dict(TURN_WORDS):
        sums[bits[0]] = dict(TURN_WORDS)[word]
    else:
        raise Unfit()
    return marked_from(maps, flips, sums)


def map_of_circuit(circuit):
    """The MARKED MAP of a CIRCUIT of such GATES."""
    n, gates = circuit
    marked = marked_from(still_maps(n), 0, [0] * (1 << n))
    for gate in gates:
        marked = maps_put(marked, map_of_gate(n, gate))
    return marked


def eighths_at(marks, place):
    """By how many eighths these MARKS turn the place."""
    return sum([eighths for at, eighths in enumerate(marks) if parity(at + 1, place) == 1]) % 8


def led_to(marked, place):
    """The pair of the place behind and of the eighths by which the RAY is turned."""
    turn, maps, flips, marks = marked
    ones = [wire for wire, y in enumerate(maps) if parity(y, place) == 1]
    return wire_bits(len(maps), ones) ^ flips, (turn + eighths_at(marks, place)) % 8


def sums_of(marks):
    """The list of the pairs (wires, rest), rest 0 or not, for all sets of one to three wires, few first."""
    n = wires_of_marks(marks)
    found = []
    for wires in wire_sets(n):
        if 1 <= len(wires) <= 3:
            marks_there = [marks[y - 1] for y in places_with(n, wires)]
            found.append((wires, sum(marks_there) % ROUNDS[len(wires) - 1]))
    return found


def least_sum(marks):
    """The SUM of the least wires, or None if the MARKS are zero."""
    for wires, rest in sums_of(marks):
        if rest != 0:
            return (wires, rest)
    return None


def same_maps(one, other):
    """Whether both MARKED MAPS, of as many wires, make the same of each STATE."""
    if frozen(one[:3]) != frozen(other[:3]):
        return False
    return least_sum([(left - right) % 8 for left, right in zip(one[3], other[3])]) is None


def marks_with_sums(n, sums):
    """The plain MARKS of n wires that have these sums."""
    marks = [0] * ((1 << n) - 1)
    for wires, rest in sums[::-1]:
        # Sets of more wires come first, so all that is in the sum but this one is known.
        known = [marks[y - 1] for y in places_with(n, wires)]
        marks[wire_bits(n, wires) - 1] = (rest - sum(known)) % ROUNDS[len(wires) - 1]
    return tuple(marks)


def times_of(turns):
    """The list of the pairs (wires, times) of TURNS, times 0 or not, few wires first."""
    n = wires_of_turns(turns)
    times = list(turns)
    for bit in still_maps(n):
        for place in places_with(n, ()):
            if place & bit != 0:
                times[place] = (times[place] - times[place ^ bit]) % 8
    return [(wires, times[wire_bits(n, wires)]) for wires in wire_sets(n)]


def gates_of_map(marked):
    """GATES of which this is the MARKED MAP, with as many T as marks are odd."""
    turn, maps, flips, marks = marked
    n = len(maps)
    gates = [("W",)] * turn
    for at, eighths in enumerate(marks):
        if eighths != 0:
            gates.extend(turning_gates(wires_at(n, at + 1), eighths))
    gates.extend(gates_of_parities(maps))
    return tuple(gates + [("X", wire) for wire in wires_at(n, flips)])


def turning_gates(wires, eighths):
    """GATES that turn by the parity of these wires, all else left."""
    gathered = [("CX", wire, wires[-1]) for wire in wires[:-1]]
    words = [word for word, many in TURN_WORDS if eighths & many != 0]
    return gathered + [(word, wires[-1]) for word in words] + gathered[::-1]


def gates_of_parities(maps):
    """GATES CX behind which each wire holds its parity."""
    rows = list(maps)
    steps = []
    for wire, bit in enumerate(still_maps(len(rows))):
        source = [row for row in range(wire, len(rows)) if rows[row] & bit != 0][0]
        if source != wire:
            steps.append((source, wire))
            rows[wire] ^= rows[source]
        for row in range(len(rows)):
            if row != wire and rows[row] & bit != 0:
                steps.append((wire, row))
                rows[row] ^= rows[wire]
    # The steps bring the parities down to the wires; from the last one on they bring them up.
    return [("CX", source, row) for source, row in steps[::-1]]
