"""One wire, reckoned another way: words, TABLES by values, LETTERS as a tree."""

import drawn
import exact

GATE_VALUES = {word: exact.circuit_values((1, ((word,) if word == "W" else (word, 0),))) for word in
               ("H", "S", "T", "W", "X", "Z")}
STILL = exact.still_values(2)


def values_of_word(word):
    """The values of the TABLE of these GATES, one behind another."""
    table = STILL
    for letter in word:
        table = exact.tables_product(GATE_VALUES[letter], table)
    return table


def values_of_reading(reading):
    """The values of the TABLE of a READING, straight from its definition."""
    first, steps, rest = reading
    table = GATE_VALUES["T"] if first else STILL
    for step in steps:
        for letter in ("SHT" if step else "HT"):
            table = exact.tables_product(table, GATE_VALUES[letter])
    return exact.tables_product(table, exact.table_values(rest))


def turned(table, many):
    return tuple(tuple(exact.times(exact.power_of_w(many), part) for part in row) for row in table)


def like_key(table):
    """One and the same for all TABLES that are like."""
    return min(turned(table, many) for many in range(8))


def quarter_values():
    """The values of all that H, S and W come to, by closure."""
    found, ahead = {STILL}, [STILL]
    while ahead:
        table = ahead.pop()
        for word in "HSW":
            after = exact.tables_product(GATE_VALUES[word], table)
            if after not in found:
                found.add(after)
                ahead.append(after)
    return found


def all_letters(most):
    """All LETTERS of at most so many numbers."""
    found = [()]
    for letters in found:
        if len(letters) < most:
            found += [letters + (letter,) for letter in range(2 if letters else 3)]
    return found


def letters(draw, length):
    return tuple(draw.randrange(2 if at else 3) for at in range(length))


def apart(one, other):
    shared = 0
    for left, right in zip(one, other):
        if left != right:
            break
        shared += 1
    return len(one) - shared + len(other) - shared


def reading(draw, length, quarters):
    return (draw.random() < 0.5, tuple(draw.randrange(2) for _ in range(length)), draw.choice(quarters))


def circuit(draw, length, words="HTSZXW"):
    return (1, tuple((word,) if word == "W" else (word, 0) for word in draw.choices(words, k=length)))


def state_tables(seed, lengths=(0, 1, 3, 8, 20, 60, 200, 400)):
    """TABLES of CIRCUITS of one wire, some with all kinds of GATES, some with many eighths."""
    draw = drawn.rng(seed)
    return [circuit(draw, length, words) for length in lengths for words in ("HTSZXW", "HT", "HTST")]
