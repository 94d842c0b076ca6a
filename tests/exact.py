"""Another way to reckon with RAYS, to judge the package by.

A RAY is told by what it comes to modulo the prime P when w is each of the four
primitive eighth roots of 1 there. RAYS with numbers far below P are equal
exactly if all four agree; sums and products are those of the four.
"""

P = 2 ** 64 - 2 ** 32 + 1
EXPONENTS = (1, 3, 5, 7)
EIGHTHS = [pow(2, 24 * exponent, P) for exponent in EXPONENTS]
ROOTS_DOWN = [pow(w - w ** 3, -1, P) for w in EIGHTHS]


def value(ray):
    a, b, c, d, k = ray
    return tuple((a + b * w + c * w ** 2 + d * w ** 3) * pow(down, k, P) % P
                 for w, down in zip(EIGHTHS, ROOTS_DOWN))


def number(many):
    return (many % P,) * 4


def power_of_w(many):
    return tuple(pow(w, many % 8, P) for w in EIGHTHS)


def power_of_root(many):
    return tuple(pow(down, -many, P) for down in ROOTS_DOWN)


def plus(*values):
    return tuple(sum(parts) % P for parts in zip(number(0), *values))


def times(*values):
    out = number(1)
    for each in values:
        out = tuple(x * y % P for x, y in zip(out, each))
    return out


def swapped(parts, factor):
    return tuple(parts[EXPONENTS.index(exponent * factor % 8)] for exponent in EXPONENTS)


def mirror(parts):
    return swapped(parts, 7)


def twin(parts):
    return swapped(parts, 5)


def size(parts):
    return times(parts, mirror(parts))


def values(rays):
    return tuple(value(ray) for ray in rays)


def table_values(table):
    return tuple(values(row) for row in table)


def unit_values(many, place):
    return tuple(number(1 if at == place else 0) for at in range(many))


def still_values(many):
    return tuple(unit_values(many, place) for place in range(many))


def product(ones, others):
    return plus(*[times(mirror(one), other) for one, other in zip(ones, others)])


def through(table, state):
    return tuple(plus(*[times(one, other) for one, other in zip(row, state)]) for row in table)


def columns(table):
    return tuple(zip(*table))


def tables_product(one, other):
    return columns(tuple(through(one, column) for column in columns(other)))


def back(table):
    return tuple(tuple(mirror(part) for part in column) for column in columns(table))


def upright(table):
    return tables_product(back(table), table) == still_values(len(table))


def done(state, deed):
    """What one DEED makes of the values of a STATE."""
    state = list(state)
    i, j = deed[1], deed[-1]
    if deed[0] == "turn":
        state[i] = times(state[i], power_of_w(1))
    elif deed[0] == "swap":
        state[i], state[j] = state[j], state[i]
    else:
        up, down = plus(state[i], state[j]), plus(state[i], times(number(-1), state[j]))
        state[i], state[j] = times(up, power_of_root(-1)), times(down, power_of_root(-1))
    return tuple(state)


def done_all(state, deeds):
    for deed in deeds:
        state = done(state, deed)
    return state


def deeds_values(many, deeds):
    return columns(tuple(done_all(unit_values(many, place), deeds) for place in range(many)))


def gate_on(n, gate, state):
    """What one GATE makes of the values of a STATE, straight from the bits of its wires."""
    word, wires = gate[0], gate[1:]
    bits = [1 << (n - 1 - wire) for wire in wires]
    turns = {"T": 1, "S": 2, "Z": 4, "CZ": 4, "W": 1}
    after = list(state)
    for place in range(2 ** n):
        if word in turns:
            if all(place & bit for bit in bits):
                after[place] = times(state[place], power_of_w(turns[word]))
        elif word == "H":
            sign = number(-1 if place & bits[0] else 1)
            mixed = plus(state[place & ~bits[0]], times(sign, state[place | bits[0]]))
            after[place] = times(mixed, power_of_root(-1))
        elif all(place & bit for bit in bits[:-1]):
            after[place] = state[place ^ bits[-1]]
    return tuple(after)


def circuit_values(circuit):
    n, gates = circuit
    found = []
    for place in range(2 ** n):
        state = unit_values(2 ** n, place)
        for gate in gates:
            state = gate_on(n, gate, state)
        found.append(state)
    return columns(tuple(found))
