"""[20]: judge.py: CLAIMS of each word, so and not so, and which things are PAPERS of them."""

import unittest

import drawn
import exact
import parities
from eighthturns.circuits import circuit_table, is_parting_pair
from eighthturns.deeds import deeds_done, deeds_table
from eighthturns.errors import NoWord, TooMany, Unfit
from eighthturns.fewest import distances, eighths_needed, odd_row
from eighthturns.fills import is_fill_bar, is_filled_by
from eighthturns.helpers import is_gates_for, is_helper_bar, wires_alone
from eighthturns.judge import is_claim, is_paper, is_so, not_so, paper, shows, words_so
from eighthturns.made import is_bar, is_deeds_for
from eighthturns.marks import is_marked, is_marks_seen, is_turns_bar, marked_alike, turns_of
from eighthturns.rays import size_of, turned_ray
from eighthturns.rounds import comes_round, is_round_paper, power_far
from eighthturns.tables import columns_of, like_turn, still_table
from eighthturns.told import is_clash, is_fit
from later_calls import CLAIMS, PAPERS

ZERO, ONE, W, HALF, LESS = drawn.ZERO, drawn.ONE, (0, 1, 0, 0, 0), drawn.HALF, drawn.LESS
WORDS = ("made", "like", "round", "turned", "needs", "filled", "alone", "fits")
WRONG = ("other wires", "many turns", "many wires", "far", "slanting", "unfit", "loud", "short", "long", "bare")
RIGHT = [name for name in CLAIMS if name not in WRONG]
SO = [name for name in RIGHT if name in ("made", "like", "round", "turned", "cheap", "filled", "alone", "fits")]


def first_turned(table, many):
    return (tuple(turned_ray(ray, many) for ray in table[0]),) + table[1:]


def drawn_claims(seed, many=6):
    """CLAIMS of each word, with what is told of them by other functions."""
    draw = drawn.rng(seed)
    found = []
    for at in range(many):
        n = draw.randint(1, 2)
        circuit = drawn.circuit(draw, n, 9 * at)
        table = circuit_table(circuit)
        bottom = draw.choice((1, 1, 3))
        given = tuple(tuple((ray, bottom) for ray in row) for row in table)
        found.append((("made", given), bottom == 1))
        other = (n, (("W",),) * draw.randrange(8) + circuit[1] + (("T", 0),) * (8 * draw.randrange(2) + at % 2))
        found.append((("like", circuit, other), at % 2 == 0))
        found.append((("round", table), comes_round(table)))
        marks = tuple(draw.randrange(8) for _ in range(2 ** n - 1))
        turns = turns_of(marks) if at % 2 else tuple(draw.randrange(8) for _ in range(2 ** n))
        seen = n == 1 or (turns[0] - turns[1] - turns[2] + turns[3]) % 2 == 0
        found.append((("turned", turns), seen))
        marked = parities.marked(draw, draw.randint(1, 5))
        most = draw.randint(0, 2 * eighths_needed(marked) + 1)
        found.append((("needs", marked, most), eighths_needed(marked) <= most))
        state = deeds_done((ONE, ZERO, ZERO), drawn.deeds(draw, 3, draw.randint(0, 6)))
        found.append((("filled", state[:1], 2), True))
        found.append((("filled", ((2, at, 0, 0, 0),), 1 + at % 4), False))
        alone = first_turned(table, draw.randrange(8))
        found.append((("alone", alone), wires_alone(alone)))
        machine = deeds_table(2, drawn.deeds(draw, 2, 9))
        sights = tuple((state, end) for state, end in zip(drawn.still(2), columns_of(machine)))
        found.append((("fits", sights), True))
        found.append((("fits", sights + ((sights[0][0], sights[1][1]),)), False))
    return found


def so_by_the_table(claim, thing):
    """Whether thing is a PAPER that the CLAIM is so, word by word as the document has it."""
    word, *things = claim
    if word == "made":
        return is_deeds_for(things[0], thing)
    if word == "like":
        one, other = [exact.circuit_values(own) for own in things]
        return type(thing) is int and 0 <= thing < 8 and one == tuple(
            tuple(exact.times(exact.power_of_w(thing), part) for part in row) for row in other)
    if word == "round":
        if type(thing) is not int or not 1 <= thing <= 480 or not comes_round(things[0]):
            return False
        return like_turn(power_far(things[0], thing), still_table(len(things[0]))) is not None
    if word == "turned":
        return is_marks_seen(things[0], thing)
    if word == "needs":
        return (is_marked(thing) and len(thing[1]) == len(things[0][1]) and marked_alike(things[0], thing)
                and sum(odd_row(thing[3])) <= things[1])
    if word == "filled":
        return is_filled_by(things[0], things[1], thing)
    if word == "alone":
        return is_gates_for(things[0], thing)
    return is_fit(things[0], thing)


def not_by_the_table(claim, thing):
    """Whether thing is a PAPER that the CLAIM is not so."""
    word, *things = claim
    if word == "made":
        return is_bar(things[0], thing)
    if word == "like":
        return is_parting_pair(things[0], things[1], thing)
    if word == "round":
        return is_round_paper(things[0], thing)
    if word == "turned":
        return is_turns_bar(things[0], thing)
    if word == "needs":
        return (isinstance(thing, tuple) and all(type(own) is int for own in thing)
                and thing == distances(things[0][3]) and min(thing) > things[1])
    if word == "filled":
        return is_fill_bar(things[0], things[1], thing)
    if word == "alone":
        return is_helper_bar(things[0], thing)
    return is_clash(things[0], thing)


class Decided(unittest.TestCase):
    def test_drawn_claims(self):
        claims = drawn_claims(1)
        found = {(claim[0], so) for claim, so in claims}
        self.assertEqual({word for word, _ in found}, set(WORDS))
        for word in WORDS:
            self.assertTrue({(word, True), (word, False)} <= found, word)
        for claim, so in claims:
            self.assertIs(is_claim(claim), True)
            self.assertIs(is_so(claim), so)
            own = paper(claim)
            self.assertEqual(own, paper(claim))
            self.assertIs(is_paper(claim, own), True)
            self.assertIs(shows(claim, own), so)
            self.assertIs(so_by_the_table(claim, own), so)
            self.assertIs(not_by_the_table(claim, own), not so)

    def test_papers_of_other_claims_and_things_of_every_kind(self):
        claims = drawn_claims(2, 3) + [(CLAIMS[name], name in SO) for name in RIGHT]
        papers = [paper(claim) for claim, _ in claims] + list(PAPERS.values()) + drawn.things() + list(range(-2, 20))
        papers += [480, 481, 960, True, False, (0, 0), (1, 1), [0, 1], (False, True), ((0, 1),)]
        for claim, so in claims:
            for thing in papers:
                told = shows(claim, thing)
                self.assertIs(told, True if so_by_the_table(claim, thing) else False if not_by_the_table(claim, thing) else None)
                self.assertIs(is_paper(claim, thing), told is not None)
                self.assertIn(told, (so, None))

    def test_each_word_so_and_not_so(self):
        for name in RIGHT:
            self.assertIs(is_so(CLAIMS[name]), name in SO, name)
            self.assertIs(shows(CLAIMS[name], PAPERS[name]), name in SO, name)

    def test_one_paper_never_shows_both(self):
        for name in SO:
            for other in RIGHT:
                if other not in SO and CLAIMS[other][0] == CLAIMS[name][0]:
                    self.assertIsNone(shows(CLAIMS[name], PAPERS[other]))
                    self.assertIsNone(shows(CLAIMS[other], PAPERS[name]))

    def test_true_and_false_are_no_numbers(self):
        one = (0, (1,), 0, (1,))
        for claim, right, wrong in (
                (CLAIMS["helped"], 1, True), (CLAIMS["apart"], (0, 1), (False, True)), (CLAIMS["odd"], ("odd", 0, 0), ("odd", False, 0)),
                (("needs", one, 0), (1,), (True,)), (("needs", one, 1), one, (False, (1,), 0, (1,))), (("needs", one, 1), one, (0, (True,), 0, (1,))),
                (("turned", (0, 1)), (0, (1,)), (0, (True,))), (("turned", (0, 1)), (0, (1,)), (False, (1,))),
                (("filled", ((1, 1, 1, 0, 4),), 1), ("prime", 7, 3, 1), ("prime", 7, 3, True)), (CLAIMS["clash"], (0, 2, 3), (False, 2, 3)),
                (CLAIMS["made"], (("mix", 0, 1),), (("mix", False, True),)), (("round", drawn.still(2)), 1, True),
                (("like", (1, (("W",),)), (1, ())), 1, True), (("like", (1, ()), (1, ())), 0, False),
                (CLAIMS["alone"], (1, (("H", 0),)), (True, (("H", 0),))), (CLAIMS["alone"], (1, (("H", 0),)), (1, (("H", False),))),
                (CLAIMS["corner"], (0, 1), (0, True)), (CLAIMS["endless"], (1, (1, -1, 0, 0, 1)), (True, (1, -1, 0, 0, 1))),
                (CLAIMS["endless"], (1, (1, -1, 0, 0, 1)), (1, (1, -1, 0, 0, True)))):
            self.assertIs(shows(claim, right), is_so(claim))
            self.assertIsNone(shows(claim, wrong))
            self.assertIs(is_paper(claim, wrong), False)

    def test_like_by_each_power_of_w(self):
        for many in range(8):
            one, other = (1, (("W",),) * many + (("H", 0),)), (1, (("H", 0),))
            self.assertEqual(paper(("like", one, other)), many)
            for thing in range(-1, 16):
                self.assertIs(shows(("like", one, other), thing), True if thing == many else None)
            self.assertIsNone(shows(("like", other, other), False))

    def test_round_by_all_multiples(self):
        table = circuit_table((1, (("S", 0), ("H", 0))))
        found = [thing for thing in range(-10, 1000) if shows(("round", table), thing)]
        self.assertEqual(found, list(range(3, 481, 3)))
        self.assertIsNone(shows(("round", drawn.still(2)), True))
        self.assertIs(shows(("round", drawn.still(2)), 1), True)
        self.assertIs(shows(("round", drawn.still(2)), 480), True)

    def test_no_power_is_too_far_for_a_thing(self):
        endless = CLAIMS["endless"]
        for thing in (201, 480, 10 ** 40, -10 ** 40):
            self.assertIsNone(shows(endless, thing))

    def test_needs_at_most_many(self):
        marked = (0, (2, 1), 0, (1, 1, 7))
        for many in range(6):
            claim = ("needs", marked, many)
            self.assertIs(is_so(claim), many >= 3)
            self.assertIs(shows(claim, marked), True if many >= 3 else None)
            self.assertIs(shows(claim, (3,)), False if many < 3 else None)
        quad = (0, (8, 4, 2, 1), 0, (1,) * 15)
        self.assertIs(shows(("needs", quad, 15), quad), True)
        self.assertIsNone(shows(("needs", quad, 14), quad))
        self.assertIs(shows(("needs", quad, 0), (0, (8, 4, 2, 1), 0, (0,) * 15)), True)
        self.assertIsNone(shows(("needs", quad, 0), (15, 0)))

    def test_one_ray_and_two(self):
        tops = (1, 1, 1, 0, 4)
        one, two = ("filled", (tops,), 1), ("filled", (tops,), 2)
        self.assertEqual((is_so(one), is_so(two)), (False, True))
        self.assertIn(paper(one), (("prime", 7, 3, 1), ("prime", 23, 18, 1)))
        for bar in (("prime", 7, 3, 1), ("prime", 23, 18, 1)):
            self.assertEqual((shows(one, bar), shows(two, bar)), (False, None))
        self.assertEqual(len(paper(two)), 2)
        self.assertEqual((shows(one, paper(two)), shows(two, paper(two))), (None, True))

    def test_filled_so_is_asked_first(self):
        state = circuit_table((1, (("H", 0), ("T", 0)) * 40))[0]
        self.assertTrue(max(ray[4] for ray in state) > 12)
        claim = ("filled", state[:1], 1)
        for function in (is_so, paper):
            with self.assertRaises(TooMany):
                function(claim)
        self.assertIs(shows(claim, state[1:]), True)
        self.assertIs(is_paper(claim, state[1:]), True)
        for thing in (None, ("below",), state[:1], list(state[1:])):
            for function in (shows, is_paper):
                with self.assertRaises(TooMany):
                    function(claim, thing)
        self.assertEqual(size_of(state[0])[4] > 0, True)


class Wrong(unittest.TestCase):
    def each(self, claim):
        return [(is_so, claim), (paper, claim), (is_paper, claim, None), (shows, claim, None), (shows, claim, 0),
                (not_so, (claim,)), (words_so, (claim,)), (not_so, (CLAIMS["made"], claim)), (words_so, (CLAIMS["odd"], claim))]

    def test_words_that_are_none(self):
        for word in ("loud", "", "Made", "made ", "is", "odd"):
            for claim in ((word,), (word, CLAIMS["made"][1]), (word, 0, 0, 0), [word, None]):
                for function, *args in self.each(claim):
                    with self.assertRaises(NoWord) as caught:
                        function(*args)
                    self.assertEqual(caught.exception.word, word)

    def test_too_few_and_too_many_things(self):
        for name in RIGHT:
            claim = CLAIMS[name]
            for wrong in (claim[:-1], claim + (0,), claim[:1], claim + claim, list(claim[:1])):
                for function, *args in self.each(wrong):
                    with self.assertRaises(Unfit):
                        function(*args)

    def test_what_the_points_raise(self):
        wanted = {"other wires": Unfit, "many turns": TooMany, "many wires": TooMany, "far": TooMany, "slanting": Unfit,
                  "unfit": Unfit}
        for name, error in wanted.items():
            for function, *args in self.each(CLAIMS[name]):
                with self.assertRaises(error):
                    function(*args)
        three = ("alone", drawn.still(3))
        for function, *args in self.each(three):
            with self.assertRaises(Unfit):
                function(*args)

    def test_the_first_claim_is_asked_whole(self):
        loud, short, far = CLAIMS["loud"], CLAIMS["short"], CLAIMS["far"]
        for claims, error in (((loud, short), NoWord), ((short, loud), Unfit), ((far, loud), TooMany), ((short, far), Unfit),
                              ((CLAIMS["made"], far, loud), TooMany), ((CLAIMS["odd"], CLAIMS["odd"], loud, far), NoWord)):
            for function in (not_so, words_so):
                with self.assertRaises(error):
                    function(claims)


class Several(unittest.TestCase):
    def test_not_so(self):
        self.assertEqual(repr(not_so(())), "()")
        for names in (("made", "odd", "like"), ("odd",) * 6, ("made",) * 6, ("clash", "fits", "helped", "alone", "dear", "full")):
            wanted = tuple(at for at, name in enumerate(names) if name not in SO)
            self.assertEqual(repr(not_so([CLAIMS[name] for name in names])), repr(wanted))

    def test_words_so(self):
        self.assertEqual(repr(words_so(())), "()")
        for names, wanted in ((("made", "odd"), ()), (("odd", "made"), ()), (("made", "made"), ("made",)),
                              (("round", "made", "alone"), ("alone", "made", "round")), (("odd", "fits", "clash", "cheap"), ("needs",)),
                              (("cheap", "dear", "turned", "corner"), ()), (("filled", "like", "fits"), ("filled", "fits", "like"))):
            self.assertEqual(repr(words_so(tuple(CLAIMS[name] for name in names))), repr(wanted))

    def test_all_words_at_once(self):
        self.assertEqual(words_so([CLAIMS[name] for name in SO]), tuple(sorted(WORDS)))


class Shapes(unittest.TestCase):
    def test_claims(self):
        for name in RIGHT + ["many turns", "many wires", "far", "unfit"]:
            self.assertIs(is_claim(CLAIMS[name]), True, name)
        self.assertIs(is_claim(("needs", (0, (1,), 0, (0,)), 0)), True)
        self.assertIs(is_claim(("filled", (), 1)), True)
        for name in ("other wires", "slanting", "loud", "short", "long", "bare"):
            self.assertIs(is_claim(CLAIMS[name]), False, name)

    def test_beyond_all_bounds(self):
        far = (10 ** 40, 0, 0, 0, 0)
        for claim in (("made", (((far, 10 ** 30 + 1), (ZERO, 1)), ((ZERO, 3), (ONE, 1)))), ("like", (10 ** 40, ()), (10 ** 40, ())),
                      ("round", drawn.still(9)), ("turned", (7,) * 128), ("needs", (0, (64, 32, 16, 8, 4, 2, 1), 0, (0,) * 127), 10 ** 40),
                      ("filled", (far, (1, 0, 0, 0, 10 ** 9)), 10 ** 40), ("filled", (), 5), ("alone", drawn.still(8)),
                      ("fits", ((drawn.still(9)[0], drawn.still(9)[1]),) * 9)):
            self.assertIs(is_claim(claim), True)

    def test_what_is_none(self):
        up, still, state = drawn.MIXED, drawn.still(2), (HALF, HALF)
        wrong = [
            (), ("made",), ("made", ()), ("made", still), ("made", CLAIMS["made"][1][:1]), ["made", CLAIMS["made"][1]],
            ("like", (1, ())), ("like", (1, ()), (2, ())), ("like", (1, ()), 1), ("like", (0, ()), (0, ())), ("like", (1, ()), [1, ()]),
            ("like", [1, ()], (1, ())), ("like", (1, (("H", 1),)), (1, ())), ("like", (1, ()), (1, (("H", 1),))), ("like", None, (1, ())),
            ("round", ((ONE, ONE), (ZERO, ONE))), ("round", ()), ("round", (ONE,)), ("round", [list(row) for row in up]),
            ("round", ((ONE, (1, 0, 0, 0, 10 ** 18)), (ZERO, ONE))), ("round", up, up), ("round", ((True, ZERO), (ZERO, ONE))),
            ("turned", ()), ("turned", (0,)), ("turned", (0, 1, 2)), ("turned", (0,) * 6), ("turned", (0, 8)), ("turned", (0, -1)),
            ("turned", (0, True)), ("turned", [0, 0]), ("turned", (0, None)), ("turned", 0), ("turned", "0000"),
            ("needs", (0, (1,), 0, (1,)), -1), ("needs", (0, (1,), 0, (1,)), True), ("needs", (0, (1,), 0, (1,)), None),
            ("needs", (0, (1,), 0, (8,)), 1), ("needs", 1, (0, (1,), 0, (1,))), ("needs", [0, (1,), 0, (1,)], 1),
            ("filled", (), 0), ("filled", (), -1), ("filled", (), True), ("filled", (), "1"), ("filled", ONE, 1), ("filled", [ONE], 1),
            ("filled", (0,), 1), ("filled", ((2, 0, 0, 0, 2),), 1), ("filled", None, 1), ("filled", ()),
            ("alone", drawn.still(3)), ("alone", drawn.still(5)), ("alone", drawn.still(16)), ("alone", ((ONE, ONE), (ZERO, ONE))),
            ("alone", list(up)), ("alone", (ONE, ONE)), ("alone",),
            ("fits", ()), ("fits", (state, state)), ("fits", ((state,),)), ("fits", ((state, state, state),)), ("fits", [(state, state)]),
            ("fits", ([state, state],)), ("fits", ((state, (ONE, ZERO, ZERO)),)), ("fits", ((state, (ONE, ONE)),)),
            ("fits", ((state, state), (drawn.still(3)[0],) * 2)), ("fits", ((state, None),)), ("fits", state),
            (None, still), (True, still), (0, up), (("made",), up), (["made"], up), ("round ", up), ("made", CLAIMS["made"][1], None),
        ]
        for thing in wrong + drawn.things() + list(WORDS):
            self.assertIs(is_claim(thing), False, thing)


if __name__ == "__main__":
    unittest.main()
