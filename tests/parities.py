"""MARKED MAPS, MARKS and TURNS, drawn and reckoned another way."""

import itertools

import exact

MAP_WORDS = {"W": 0, "X": 1, "CX": 2, "T": 1, "S": 1, "Z": 1, "CZ": 2}


def parity(y, x):
    return bin(y & x).count("1") % 2


def gate(draw, n, words="W X CX T S Z CZ"):
    word = draw.choice([own for own in words.split() if MAP_WORDS[own] <= n])
    return (word, *draw.sample(range(n), MAP_WORDS[word]))


def circuit(draw, n, length, words="W X CX CX T T S Z CZ"):
    return (n, tuple(gate(draw, n, words) for _ in range(length)))


def maps(draw, n):
    while True:
        found = tuple(draw.randrange(1, 2 ** n) for _ in range(n))
        if unlike(found):
            return found


def unlike(maps):
    """Whether no two places come to one, by all places."""
    return len({tuple(parity(y, x) for y in maps) for x in range(2 ** len(maps))}) == 2 ** len(maps)


def marks(draw, n, most=7):
    return tuple(draw.randint(0, most) for _ in range(2 ** n - 1))


def marked(draw, n):
    return (draw.randrange(8), maps(draw, n), draw.randrange(2 ** n), marks(draw, n))


def wires_of(marked):
    return len(marked[1])


def led(marked, x):
    """Where the place comes to, and by how many eighths it is turned."""
    turn, maps, flips, marks = marked
    n = len(maps)
    behind = 0
    for wire, y in enumerate(maps):
        bit = 2 ** (n - 1 - wire)
        behind += bit * (parity(y, x) ^ (flips & bit != 0))
    return behind, (turn + sum(mark for y, mark in enumerate(marks, 1) if parity(y, x))) % 8


def all_led(marked):
    """What a MARKED MAP makes of all places."""
    return tuple(led(marked, x) for x in range(2 ** wires_of(marked)))


def one_then(one, other):
    """What both make of all places, of what they make by themselves."""
    return tuple((other[place][0], (eighths + other[place][1]) % 8) for place, eighths in one)


def back(one):
    found = [None] * len(one)
    for place, (behind, eighths) in enumerate(one):
        found[behind] = (place, -eighths % 8)
    return tuple(found)


def circuit_led(circuit):
    """What a CIRCUIT makes of all places, GATE by GATE."""
    n, gates = circuit
    found = []
    for x in range(2 ** n):
        place, eighths = x, 0
        for gate in gates:
            bits = [2 ** (n - 1 - wire) for wire in gate[1:]]
            if gate[0] in ("X", "CX"):
                place ^= bits[-1] if all(place & bit for bit in bits[:-1]) else 0
            elif all(place & bit for bit in bits):
                eighths += {"W": 1, "T": 1, "S": 2, "Z": 4, "CZ": 4}[gate[0]]
        found.append((place, eighths % 8))
    return tuple(found)


def led_values(led):
    """The values of the TABLE that makes so of all places."""
    columns = []
    for place, eighths in led:
        columns.append(tuple(exact.power_of_w(eighths) if at == place else exact.number(0) for at in range(len(led))))
    return exact.columns(columns)


def turns(marks):
    n = len(marks).bit_length()
    return tuple(led((0, tuple(2 ** (n - 1 - q) for q in range(n)), 0, marks), x)[1] for x in range(2 ** n))


def wire_sets(n):
    """All sets of wires, few first."""
    return [wires for size in range(n + 1) for wires in itertools.combinations(range(n), size)]


def sums(marks):
    """All SUMS of the MARKS, few wires first."""
    n = len(marks).bit_length()
    found = []
    for wires in wire_sets(n):
        if 1 <= len(wires) <= 3:
            bits = sum(2 ** (n - 1 - wire) for wire in wires)
            rest = sum(mark for y, mark in enumerate(marks, 1) if y & bits == bits) % {1: 8, 2: 4, 3: 2}[len(wires)]
            if rest:
                found.append((wires, rest))
    return found


def zero_marks(n):
    """MARKS that turn no place, some of them."""
    found = [(0,) * (2 ** n - 1)]
    if n >= 4:
        found += [(1,) * (2 ** n - 1), (7,) * (2 ** n - 1), (2,) * (2 ** n - 1)]
    if n == 5:
        found += [tuple(parity(number, y) ^ about for y in range(1, 32)) for number in (1, 6, 31) for about in (0, 1)]
    if n >= 3:
        # Four times what is at all places but 0 of three wires.
        found.append(tuple(4 if y < 8 else 0 for y in range(1, 2 ** n)))
    if n >= 2:
        found.append(tuple((6, 6, 2)[y - 1] if y < 4 else 0 for y in range(1, 2 ** n)))
    return [own for own in found if not any(turns(own))]
