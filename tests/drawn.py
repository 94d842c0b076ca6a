"""Inputs drawn from a seed, and things of every kind."""

import random

ZERO, ONE = (0, 0, 0, 0, 0), (1, 0, 0, 0, 0)
HALF, LESS = (1, 0, 0, 0, 1), (-1, 0, 0, 0, 1)
EIGHTHS = (ONE, (0, 1, 0, 0, 0), (0, 0, 1, 0, 0), (0, 0, 0, 1, 0),
           (-1, 0, 0, 0, 0), (0, -1, 0, 0, 0), (0, 0, -1, 0, 0), (0, 0, 0, -1, 0))
MIXED = ((HALF, HALF), (HALF, LESS))
GATE_WORDS = {"H": 1, "T": 1, "S": 1, "Z": 1, "X": 1, "CX": 2, "CCX": 3, "CZ": 2, "W": 0}


def rng(seed):
    return random.Random(seed)


def numbers(draw, most):
    return tuple(draw.randint(-most, most) for _ in range(4))


def ray(draw, most=20, k=6):
    """A RAY, told with the least k by trial and not by the package."""
    while True:
        a, b, c, d = numbers(draw, most)
        power = draw.randint(0, k)
        if power == 0 or (a + c) % 2 or (b + d) % 2:
            return (a, b, c, d, power)


def real_ray(draw, most=20, k=6):
    while True:
        a, b, power = draw.randint(-most, most), draw.randint(-most, most), draw.randint(0, k)
        if power == 0 or a % 2:
            return (a, b, 0, -b, power)


def table(draw, rows, most=9, k=3):
    return tuple(tuple(ray(draw, most, k) for _ in range(rows)) for _ in range(rows))


def deed(draw, many):
    word = draw.choice(("turn", "swap", "mix", "mix"))
    if word == "turn":
        return (word, draw.randrange(many))
    return (word, *sorted(draw.sample(range(many), 2)))


def deeds(draw, many, length):
    return tuple(deed(draw, many) for _ in range(length))


def gate(draw, n):
    words = [word for word in GATE_WORDS if GATE_WORDS[word] <= n]
    word = draw.choice(words)
    return (word, *draw.sample(range(n), GATE_WORDS[word]))


def circuit(draw, n, length):
    return (n, tuple(gate(draw, n) for _ in range(length)))


def still(many):
    return tuple(tuple(ONE if i == j else ZERO for j in range(many)) for i in range(many))


def nested(levels):
    thing = 0
    for level in range(levels):
        thing = [thing] if level % 2 else (thing,)
    return thing


def things():
    """Things of every kind that are neither RAYS nor anything made of them."""
    return [
        True, False, None, 0, 1, -1, 7, 10 ** 40, "", "mix", "turn", "a long text", "\n",
        (), [], (0,), [0], (None,), (True,), ("",), ((),), ([],), (0, 0), (True, False), (None, None),
        (0, 0, 0, 0), (0, 0, 0, 0, True), (True, 0, 0, 0, 0), (0, 0, 0, 0, -1), (0, 0, 0, 0, 1),
        (0, 0, 0, 0, "0"), (0, 0, 0, 0, None), (0, 0, 0, 0, 0, 0), [1, 0, 0, 0, 0], ([1], 0, 0, 0, 0),
        (1, 1, 1, 1, 1), (2, 0, 0, 0, 2), (1, 0, 0, 0, 10 ** 6, 0), "10000",
        (ZERO,), ((ONE,),), ((ONE, ZERO),), ([ONE, ZERO], [ZERO, ONE]), [(ONE, ZERO), (ZERO, ONE)],
        ((ONE, ZERO), (ZERO,)), ((ONE, ZERO), (ZERO, [1, 0, 0, 0, 0])), ((ONE, ZERO), (ZERO, (1, 1, 1, 1, 1))),
        ((ONE, ZERO), None), ((ONE, ZERO), "ab"), ("ab", "cd"), ((ONE, ZERO, ZERO), (ZERO, ONE, ZERO)),
        nested(11), nested(12), (nested(11), nested(11)), tuple([nested(10)] * 5), [nested(11), True, "x"],
    ]
