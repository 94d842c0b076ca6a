"""[7]: deeds.py, against another way to reckon."""

import itertools
import unittest

import drawn
import exact
from eighthturns.deeds import (are_deeds, deed_counts, deed_done, deeds_back, deeds_done, deeds_of_circuit,
                               deeds_of_gate, deeds_table, first_idle, is_deed, is_idle_stretch, is_parting_start,
                               parting_start, plain_deeds, without_idle)
from eighthturns.errors import NoPaper, NoPlace, NoWire
from eighthturns.states import is_state
from eighthturns.tables import is_table, is_upright, still_table

ZERO, ONE, HALF, LESS = drawn.ZERO, drawn.ONE, drawn.HALF, drawn.LESS
SIZES = (2, 3, 4, 5, 8)
FULL_TURN = (("turn", 0),) * 8


def samples(seed, lengths=(0, 1, 7, 40), sizes=SIZES):
    draw = drawn.rng(seed)
    return [(many, drawn.deeds(draw, many, length)) for many in sizes for length in lengths]


def idle_samples(seed):
    """DEEDS in which stretches leave all: of few places, few kinds, and with their way back."""
    draw = drawn.rng(seed)
    found = [(many, tuple(drawn.deed(draw, many) for _ in range(30))) for many in (2, 2, 2, 3, 3)]
    for many in (2, 3, 4):
        first, rest = drawn.deeds(draw, many, 6), drawn.deeds(draw, many, 5)
        found.append((many, rest + first + deeds_back(first) + rest[::-1]))
        found.append((many, first + FULL_TURN + rest + deeds_back(rest) + first))
    return found + [(2, ()), (2, FULL_TURN), (2, FULL_TURN[:7]), (3, (("mix", 0, 2),) * 5)]


def all_idle(many, deeds):
    """All idle stretches, straight from their definition."""
    still = exact.still_values(many)
    return [(first, behind) for first in range(len(deeds)) for behind in range(first + 1, len(deeds) + 1)
            if exact.deeds_values(many, deeds[first:behind]) == still]


class Shapes(unittest.TestCase):
    def test_deeds_are_deeds(self):
        for many, deeds in samples(1):
            self.assertIs(are_deeds(many, deeds), True)
            for deed in deeds:
                self.assertIs(is_deed(many, deed), True)
        self.assertIs(is_deed(1000, ("mix", 0, 999)), True)
        self.assertIs(are_deeds(2, (("turn", 1),) * 1000), True)

    def test_just_these(self):
        numbers = (-1, 0, 1, 2, 3, True, None, "1")
        for word in ("turn", "swap", "mix", "Turn", "", "T", None, 0):
            for length in range(4):
                for places in itertools.product(numbers, repeat=length):
                    plain = all(isinstance(place, int) and place is not True and 0 <= place < 3 for place in places)
                    told = plain and word in (("turn",) if length == 1 else ("swap", "mix") if length == 2 else ())
                    told = told and (length == 1 or places[0] < places[1])
                    self.assertIs(is_deed(3, (word, *places)), told, (word, places))

    def test_things_of_every_kind_are_none(self):
        for thing in drawn.things() + [["turn", 0], ("turn", [0]), "turn", ("turn", 0, 1), (("turn", 0),)]:
            self.assertIs(is_deed(2, thing), False, thing)
        for thing in drawn.things() + [[("turn", 0)], (["turn", 0],), ("turn", 0), (("turn", 0), ("mix", 0, 2))]:
            self.assertIs(are_deeds(2, thing), thing == () and isinstance(thing, tuple), thing)


class Done(unittest.TestCase):
    def test_deeds_make_what_is_told(self):
        for many, deeds in samples(2):
            values = exact.deeds_values(many, deeds)
            table = deeds_table(many, deeds)
            self.assertTrue(is_table(table))
            self.assertEqual(exact.table_values(table), values)
            self.assertTrue(is_upright(table))

    def test_states_behind(self):
        draw = drawn.rng(3)
        for many, deeds in samples(3):
            state = deeds_done(still_table(many)[draw.randrange(many)], drawn.deeds(draw, many, 9))
            behind = deeds_done(state, deeds)
            self.assertTrue(is_state(behind))
            self.assertEqual(exact.values(behind), exact.done_all(exact.values(state), deeds))
            self.assertEqual(deeds_done(state, ()), state)
            for deed in deeds:
                state = deed_done(state, deed)
            self.assertEqual(state, behind)

    def test_each_deed(self):
        self.assertEqual(deed_done((ZERO, ONE), ("turn", 1)), (ZERO, (0, 1, 0, 0, 0)))
        self.assertEqual(deed_done((ZERO, ONE, ZERO), ("swap", 1, 2)), (ZERO, ZERO, ONE))
        self.assertEqual(deed_done((ZERO, ZERO, ONE), ("mix", 0, 2)), (HALF, ZERO, LESS))
        self.assertEqual(deed_done((ONE, ZERO, ZERO), ("mix", 0, 2)), (HALF, ZERO, HALF))

    def test_two_hundred_deeds_of_eight_places(self):
        deeds = drawn.deeds(drawn.rng(4), 8, 200)
        self.assertEqual(exact.table_values(deeds_table(8, deeds)), exact.deeds_values(8, deeds))
        self.assertIsNone(first_idle(8, plain_deeds(without_idle(8, deeds))))


class Places(unittest.TestCase):
    def asks(self, many, deeds):
        state = still_table(many)[0]
        return [lambda: deeds_done(state, deeds), lambda: deeds_table(many, deeds), lambda: first_idle(many, deeds),
                lambda: is_idle_stretch(many, deeds, None), lambda: is_idle_stretch(many, deeds, (0, 1)),
                lambda: without_idle(many, deeds), lambda: parting_start(many, deeds, ()),
                lambda: parting_start(many, (), deeds), lambda: is_parting_start(many, deeds, (), None),
                lambda: is_parting_start(many, (), deeds, 0), lambda: is_parting_start(many, deeds, (("turn", 77),), 0),
                lambda: parting_start(many, deeds, (("turn", 77),))]

    def assert_no_place(self, ask, number):
        with self.assertRaises(NoPlace) as caught:
            ask()
        self.assertEqual(caught.exception.number, number)

    def test_the_first_that_is_none_is_told(self):
        cases = [(2, (("turn", 2),), 2), (2, (("mix", 2, 3),), 2), (2, (("mix", 0, 3), ("turn", 9)), 3),
                 (3, (("turn", 0), ("swap", -1, 5)), -1), (2, (("turn", -3),), -3), (2, (("swap", -2, -1),), -2),
                 (8, (("mix", 6, 8), ("mix", 0, 8)), 8), (4, (("turn", 3), ("swap", 0, 10 ** 9), ("turn", 5)), 10 ** 9)]
        for many, deeds, number in cases:
            for ask in self.asks(many, deeds):
                self.assert_no_place(ask, number)

    def test_one_deed(self):
        for deed, number in ((("turn", 2), 2), (("mix", 2, 4), 2), (("swap", 1, 2), 2), (("mix", -1, 7), -1)):
            self.assert_no_place(lambda: deed_done((ONE, ZERO), deed), number)

    def test_places_that_are_there(self):
        for many in SIZES:
            for ask in self.asks(many, (("mix", 0, many - 1), ("turn", many - 1)))[:6]:
                ask()


class Back(unittest.TestCase):
    def test_back(self):
        for many, deeds in samples(5):
            back = deeds_back(deeds)
            self.assertTrue(are_deeds(many, back))
            self.assertEqual(deeds_table(many, deeds + back), still_table(many))
            self.assertEqual(deeds_table(many, back + deeds), still_table(many))

    def test_how_it_is_told(self):
        self.assertEqual(deeds_back(()), ())
        self.assertEqual(deeds_back((("swap", 0, 3), ("turn", 2), ("mix", 1, 2))),
                         (("mix", 1, 2),) + (("turn", 2),) * 7 + (("swap", 0, 3),))

    def test_counts(self):
        self.assertEqual(deed_counts(()), (0, 0, 0))
        for many, deeds in samples(6):
            words = [deed[0] for deed in deeds]
            self.assertEqual(deed_counts(deeds), tuple(words.count(word) for word in ("turn", "swap", "mix")))


class Gates(unittest.TestCase):
    def gates(self, n):
        return [(word, *wires) for word, many in drawn.GATE_WORDS.items()
                for wires in itertools.permutations(range(n), many)]

    def wanted(self, n, gate):
        """The DEEDS, straight from the table of GATES."""
        word, wires, places = gate[0], gate[1:], range(2 ** n)
        bits = [2 ** (n - 1 - wire) for wire in wires]
        turns = {"T": 1, "S": 2, "Z": 4, "CZ": 4, "W": 1}
        if word in turns:
            return tuple(("turn", p) for p in places if all(p & bit for bit in bits) for _ in range(turns[word]))
        return tuple(("mix" if word == "H" else "swap", p, q) for p in places for q in places
                     if p < q and p ^ q == bits[-1] and all(p & bit for bit in bits[:-1]))

    def test_each_gate(self):
        for n in (1, 2, 3, 4):
            for gate in self.gates(n):
                self.assertEqual(deeds_of_gate(n, gate), self.wanted(n, gate), (n, gate))
                self.assertEqual(exact.deeds_values(2 ** n, deeds_of_gate(n, gate)), exact.circuit_values((n, (gate,))))

    def test_wires_that_are_not_there(self):
        cases = [(1, ("H", 1), 1), (2, ("CX", 2, 5), 2), (2, ("CX", 1, 2), 2), (3, ("CCX", 0, 3, -1), 3),
                 (3, ("CCX", 0, -1, 3), -1), (1, ("T", -1), -1), (2, ("CZ", 9, 0), 9), (1, ("CX", 0, 1), 1)]
        for n, gate, number in cases:
            with self.assertRaises(NoWire) as caught:
                deeds_of_gate(n, gate)
            self.assertEqual(caught.exception.number, number)

    def test_circuits(self):
        draw = drawn.rng(7)
        for n in (1, 2, 3):
            for length in (0, 1, 12, 60):
                circuit = drawn.circuit(draw, n, length)
                deeds = deeds_of_circuit(circuit)
                self.assertEqual(deeds, sum([deeds_of_gate(n, gate) for gate in circuit[1]], ()))
                self.assertEqual(exact.deeds_values(2 ** n, deeds), exact.circuit_values(circuit))


class Plain(unittest.TestCase):
    def left_out(self, deeds):
        """One thing after another left out, from the last on, unlike the package."""
        for at in range(len(deeds) - 1, -1, -1):
            many = 8 if deeds[at][0] == "turn" else 2
            if deeds[at:at + many] == (deeds[at],) * many:
                return self.left_out(deeds[:at] + deeds[at + many:])
        return deeds

    def test_plain(self):
        draw = drawn.rng(8)
        few = (("turn", 0), ("turn", 1), ("swap", 0, 1), ("mix", 0, 1), ("mix", 0, 2))
        for _ in range(200):
            runs = [(draw.choice(few),) * draw.choice((1, 2, 3, 4, 7, 8, 9, 16)) for _ in range(draw.randint(0, 12))]
            deeds = sum(runs, ())
            plain = plain_deeds(deeds)
            self.assertEqual(plain, self.left_out(deeds))
            self.assertEqual(deeds_table(3, plain), deeds_table(3, deeds))
            self.assertEqual(plain_deeds(plain), plain)

    def test_edges(self):
        self.assertEqual(plain_deeds(()), ())
        self.assertEqual(plain_deeds(FULL_TURN), ())
        self.assertEqual(plain_deeds(FULL_TURN[:7]), FULL_TURN[:7])
        self.assertEqual(plain_deeds((("mix", 0, 1), ("swap", 0, 1), ("swap", 0, 1), ("mix", 0, 1))), ())
        self.assertEqual(plain_deeds((("mix", 0, 1), ("mix", 0, 2))), (("mix", 0, 1), ("mix", 0, 2)))
        self.assertEqual(plain_deeds((("mix", 0, 1), ("swap", 0, 1))), (("mix", 0, 1), ("swap", 0, 1)))


class Idle(unittest.TestCase):
    def test_the_least_one(self):
        for many, deeds in idle_samples(9):
            found = all_idle(many, deeds)
            self.assertEqual(first_idle(many, deeds), min(found) if found else None)

    def test_each_one_is_one(self):
        for many, deeds in idle_samples(10)[3:]:
            found, numbers = all_idle(many, deeds), range(-1, len(deeds) + 2)
            for pair in itertools.product(numbers, numbers):
                self.assertIs(is_idle_stretch(many, deeds, pair), pair in found)

    def test_things_of_every_kind_are_none(self):
        for thing in drawn.things() + [(0, 8, 8), [0, 8], (False, 8), (0, 9), (8, 0), (8, 8), (0, 7), ("0", 8), 8]:
            self.assertIs(is_idle_stretch(2, FULL_TURN, thing), False, thing)
        self.assertIs(is_idle_stretch(2, FULL_TURN, (0, 8)), True)
        self.assertIs(is_idle_stretch(2, (), (0, 0)), False)

    def test_without(self):
        for many, deeds in idle_samples(11):
            wanted = deeds
            while first_idle(many, wanted) is not None:
                first, behind = first_idle(many, wanted)
                wanted = wanted[:first] + wanted[behind:]
            self.assertEqual(without_idle(many, deeds), wanted)
            self.assertEqual(deeds_table(many, wanted), deeds_table(many, deeds))

    def test_no_two_tables_alike_without_one(self):
        for many, deeds in idle_samples(12) + samples(12, (20,)):
            tables = [deeds_table(many, deeds[:length]) for length in range(len(deeds) + 1)]
            self.assertEqual(first_idle(many, deeds) is None, len(set(tables)) == len(tables))


class Parting(unittest.TestCase):
    def test_where_they_part(self):
        draw = drawn.rng(13)
        for many, deeds in samples(13, (3, 15)) + [(4, ()), (8, ())]:
            ends = [deeds + drawn.deeds(draw, many, length) for length in (0, 1, 2, 6)]
            for other in ends + [deeds + FULL_TURN, (("turn", many - 1),) + deeds]:
                ones = exact.columns(exact.deeds_values(many, deeds))
                others = exact.columns(exact.deeds_values(many, other))
                parts = [place for place in range(many) if ones[place] != others[place]]
                if parts:
                    self.assertEqual(parting_start(many, deeds, other), parts[0])
                else:
                    with self.assertRaises(NoPaper):
                        parting_start(many, deeds, other)
                for place in range(-2, many + 2):
                    self.assertIs(is_parting_start(many, deeds, other, place), place in parts)

    def test_things_of_every_kind_are_none(self):
        turned = (("turn", 0), ("turn", 1))
        for thing in drawn.things() + [2, -1, "0", (0,), [0]]:
            self.assertIs(is_parting_start(2, turned, (), thing), repr(thing) in ("0", "1"), thing)


if __name__ == "__main__":
    unittest.main()
