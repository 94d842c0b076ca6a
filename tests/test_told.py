"""[19]: told.py, against another way to reckon, with FITS led about in all ways."""

import itertools
import unittest

import drawn
import exact
from eighthturns.deeds import deeds_done, deeds_table
from eighthturns.errors import NoPaper, Unfit
from eighthturns.fills import rays_with_size
from eighthturns.made import table_from
from eighthturns.rays import is_ray, ray_of, size_of, turned_ray
from eighthturns.tables import columns_of, is_table, is_upright, like_turn, made_of, table_mirrored, table_product
from eighthturns.told import clash_of, fit_for, is_clash, is_fit, sure_sizes

ZERO, ONE, W, HALF, LESS = drawn.ZERO, drawn.ONE, (0, 1, 0, 0, 0), drawn.HALF, drawn.LESS
UNIT, OTHER_UNIT, LOW, HIGH = (ONE, ZERO), (ZERO, ONE), (HALF, HALF), (HALF, LESS)
POWERS = [exact.power_of_w(many) for many in range(8)]


def turned(state, many):
    return tuple(turned_ray(ray, many) for ray in state)


def unit(many, place):
    return drawn.still(many)[place]


def joined(many, one, other, turns=0):
    """The STATE with 1 by root at one and that, turned, at other."""
    return tuple(HALF if at == one else turned_ray(HALF, turns) if at == other else ZERO for at in range(many))


def product(one, other):
    return exact.product(exact.values(one), exact.values(other))


def fits(sights, table):
    """Whether the TABLE makes the ends of the states, by values."""
    if not exact.upright(exact.table_values(table)):
        return False
    for state, end in sights:
        made = exact.through(exact.table_values(table), exact.values(state))
        if not any(made == tuple(exact.times(power, part) for part in exact.values(end)) for power in POWERS):
            return False
    return True


def clashes(sights, numbers):
    """Whether unlike numbers of sights are a CLASH, by values."""
    if len(numbers) == 2:
        if numbers[0] > numbers[1]:
            return False
        (state, end), (other, other_end) = [sights[number] for number in numbers]
        return all(product(end, other_end) != exact.times(power, product(state, other)) for power in POWERS)
    states, ends = exact.number(1), exact.number(1)
    for one, other in zip(numbers, numbers[1:] + numbers[:1]):
        states = exact.times(states, product(sights[one][0], sights[other][0]))
        ends = exact.times(ends, product(sights[one][1], sights[other][1]))
    return states != ends


def all_clashes(sights, most=4):
    return [numbers for many in range(2, most + 1) for numbers in itertools.permutations(range(len(sights)), many)
            if clashes(sights, numbers)]


def bases(sights):
    found = []
    for number, (state, _) in enumerate(sights):
        if all(product(sights[base][0], state) == exact.number(0) for base in found):
            found.append(number)
    return found


def are_made_of_bases(states):
    """Whether the sizes of the products with all bases come, added up, to 1, by values."""
    own = bases([(state, None) for state in states])
    sums = [exact.plus(*[exact.size(product(states[base], state)) for base in own]) for state in states]
    return all(total == exact.number(1) for total in sums)


def states_drawn(draw, many, own_bases, others):
    """STATES of so many places: some with product 0, and others made of those, all shuffled."""
    table = deeds_table(many, drawn.deeds(draw, many, draw.randint(0, 8)))
    states = [column for column in columns_of(table)[:own_bases]]
    ahead = tuple(row[:own_bases] for row in table)
    for _ in range(others):
        if own_bases > 1:
            parts = deeds_done(unit(own_bases, draw.randrange(own_bases)), drawn.deeds(draw, own_bases, draw.randint(0, 6)))
        else:
            parts = (turned_ray(ONE, draw.randrange(8)),)
        states.append(made_of(ahead, parts))
    shuffled = draw.sample(states, len(states))
    return shuffled if are_made_of_bases(shuffled) else states


def sights_drawn(seed, many=60):
    """SIGHTS of machines, their ends turned by powers of w."""
    draw = drawn.rng(seed)
    found = []
    for _ in range(many):
        places = draw.randint(2, 4)
        own_bases = draw.randint(1, places)
        machine = deeds_table(places, drawn.deeds(draw, places, draw.randint(0, 12)))
        states = states_drawn(draw, places, own_bases, draw.randint(0, 6 - own_bases))
        found.append(tuple((state, turned(made_of(machine, state), draw.randrange(8))) for state in states))
    return found


def ring_sights(a, b, c):
    """SIGHTS with no CLASH of two; there is a ring, even exactly if c is a and b together."""
    units = tuple((unit(3, at), turned(unit(3, at), at)) for at in range(3))
    return units + ((joined(3, 0, 1), joined(3, 0, 1, a)), (joined(3, 1, 2), joined(3, 1, 2, b)),
                    (joined(3, 0, 2), joined(3, 0, 2, c)))


def spoiled(draw, sights):
    """The SIGHTS with one end that is another one."""
    number = draw.randrange(len(sights))
    state, end = sights[number]
    kind = draw.randrange(3)
    if kind == 0:
        end = (turned_ray(end[0], draw.randrange(1, 8)),) + end[1:]
    elif kind == 1:
        end = draw.choice(sights)[1]
    else:
        end = deeds_done(end, drawn.deeds(draw, len(end), draw.randint(1, 4)))
    return sights[:number] + ((state, end),) + sights[number + 1:]


class Decided(unittest.TestCase):
    def check(self, sights):
        """Whether there is a FIT; what is told is right either way."""
        wanted = not all_clashes(sights, min(len(sights), 4))
        if wanted:
            fit = fit_for(sights)
            self.assertTrue(is_table(fit) and is_upright(fit))
            self.assertTrue(fits(sights, fit))
            self.assertIs(is_fit(sights, fit), True)
            self.assertEqual(fit, fit_for(sights))
            with self.assertRaises(NoPaper):
                clash_of(sights)
        else:
            clash = clash_of(sights)
            self.assertTrue(isinstance(clash, tuple) and len(set(clash)) == len(clash) >= 2)
            self.assertTrue(clashes(sights, clash))
            self.assertIs(is_clash(sights, clash), True)
            self.assertEqual(clash, clash_of(sights))
            for function in (fit_for, sure_sizes):
                with self.assertRaises(NoPaper):
                    function(sights)
        return wanted

    def test_machines_are_fits(self):
        for sights in sights_drawn(1):
            self.assertTrue(self.check(sights))

    def test_one_end_is_another_one(self):
        draw = drawn.rng(2)
        found = [self.check(spoiled(draw, sights)) for sights in sights_drawn(2)]
        self.assertTrue(10 < found.count(True) and 20 < found.count(False))

    def test_rings(self):
        draw = drawn.rng(3)
        for a, b in itertools.product(range(0, 8, 3), (0, 5)):
            for c in (a + b, a + b + 8, draw.randrange(8), a + b + 4):
                sights = ring_sights(a, b, c % 8)
                self.assertFalse(all_clashes(sights, 2))
                self.assertEqual(self.check(sights), (c - a - b) % 8 == 0)
                if (c - a - b) % 8:
                    self.assertTrue(len(clash_of(sights)) >= 3)
                    self.assertTrue(is_clash(sights, (0, 3, 1, 4, 2, 5)))
                    self.assertTrue(is_clash(sights, (3, 4, 5)))

    def test_a_ring_of_four_and_more_alone(self):
        # No three states have products that are not 0, so only a longer ring can clash.
        units = tuple((unit(4, at), unit(4, at)) for at in range(4))
        for c in range(8):
            ring = [(joined(4, at, (at + 1) % 4), joined(4, at, (at + 1) % 4, c if at == 3 else 0)) for at in range(4)]
            sights = units + tuple(ring)
            pairs = [own for own in all_clashes(sights, 2)]
            self.assertEqual(pairs, [])
            if c == 0:
                self.assertTrue(fits(sights, fit_for(sights)))
            else:
                clash = clash_of(sights)
                self.assertTrue(len(clash) >= 4 and clashes(sights, clash))
                self.assertIs(is_clash(sights, clash), True)

    def test_two_states_of_one_place_more(self):
        first, second = (UNIT, UNIT), (OTHER_UNIT, OTHER_UNIT)
        for a, b in itertools.product(range(8), repeat=2):
            sights = (first, second, (LOW, joined(2, 0, 1, a)), (joined(2, 0, 1, 2), joined(2, 0, 1, b)))
            self.assertEqual(self.check(sights), (b - a) % 8 == 2)

    def test_products_of_one_size_that_no_power_of_w_joins(self):
        # Of size 3 there are RAYS that are no turns of one another.
        found = 0
        for ray in rays_with_size((3, 0, 0, 0, 0)):
            for other in rays_with_size((3, 0, 0, 0, 0)):
                start, end = [(ray_of(own[:4], 2), (1, 0, 0, 0, 2)) for own in (ray, other)]
                sights = ((UNIT, UNIT), (OTHER_UNIT, OTHER_UNIT), (start, end))
                are_turns = any(turned_ray(ray, many) == other for many in range(8))
                self.assertEqual(self.check(sights), are_turns)
                self.assertIs(is_clash(sights, (0, 2)), not are_turns)
                found += not are_turns
        self.assertTrue(found > 0)

    def test_one_sight(self):
        for many in range(8):
            for state, end in itertools.product((UNIT, LOW, turned(HIGH, 3)), repeat=2):
                self.assertTrue(self.check(((turned(state, many), end),)))

    def test_the_same_sight_again(self):
        self.assertTrue(self.check(((LOW, HIGH),) * 6))
        self.assertTrue(self.check(((LOW, HIGH), (turned(LOW, 3), turned(HIGH, 6)))))
        self.assertFalse(self.check(((LOW, HIGH), (LOW, LOW))))
        self.assertFalse(self.check(((LOW, LOW), (HIGH, LOW))))

    def test_bases_with_ends_of_other_products(self):
        self.assertFalse(self.check(((UNIT, UNIT), (OTHER_UNIT, LOW))))
        self.assertEqual(clash_of(((UNIT, UNIT), (OTHER_UNIT, LOW))), (0, 1))

    def test_all_fits_are_like_where_ways_lead_to_all_bases(self):
        sights = ring_sights(1, 2, 3)
        one = fit_for(sights)
        for many in range(8):
            about = tuple(turned(row, many) for row in one)
            self.assertIs(is_fit(sights, about), True)
        self.assertTrue(all(size is not None for row in sure_sizes(sights) for size in row))
        draw = drawn.rng(8)
        units = tuple((unit(3, at), unit(3, at)) for at in range(3))
        many = (joined(3, 0, 1, 2), joined(3, 1, 2, 7), joined(3, 0, 2, 1))
        for _ in range(20):
            machine = deeds_table(3, drawn.deeds(draw, 3, 12))
            sights = [(state, turned(made_of(machine, state), draw.randrange(8)))
                      for state in [own for own, _ in units] + draw.sample(many, 2)]
            one = fit_for(sights)
            others = [fit_for([sights[at] for at in order]) for order in ((2, 0, 1, 4, 3), (1, 0, 2, 3, 4))]
            for other in others + [machine]:
                self.assertIsNotNone(like_turn(one, other))


class Judged(unittest.TestCase):
    def test_fits(self):
        sights = ((LOW, LOW), (HIGH, HIGH))
        for one, other in itertools.product(range(8), repeat=2):
            table = table_product(table_product(drawn.MIXED, ((turned_ray(ONE, one), ZERO), (ZERO, turned_ray(ONE, other)))),
                                  drawn.MIXED)
            self.assertIs(is_fit(sights, table), True)
            self.assertIs(is_fit(sights + ((UNIT, UNIT),), table), one == other)
            self.assertIs(is_fit(sights, [list(row) for row in table]), False)
            self.assertIs(is_fit(sights, table + table), False)
        wrong = [drawn.still(3), ((ONE, ZERO), (ZERO, W)), ((ONE, ZERO), (ONE, ZERO)), ((HALF, HALF), (HALF, HALF)),
                 (((1, 0, 0, 0, False), ZERO), (ZERO, ONE)), ((True, ZERO), (ZERO, ONE)), ((W, ZERO), (ZERO, ONE)), (LOW,)]
        for thing in wrong + [thing for thing in drawn.things() if thing != drawn.still(2)]:
            self.assertIs(is_fit(sights, thing), False, thing)

    def test_what_is_led_right_but_not_upright(self):
        self.assertIs(is_fit(((UNIT, UNIT),), ((ONE, ONE), (ZERO, ONE))), False)
        self.assertIs(is_fit(((UNIT, UNIT),), ((ONE, ZERO), (ZERO, (0, 0, 1, 0, 0)))), True)

    def test_all_tuples_of_numbers(self):
        draw = drawn.rng(4)
        several = [spoiled(draw, sights) for sights in sights_drawn(5, 8)] + [ring_sights(1, 0, 0), ring_sights(1, 1, 2)]
        for sights in several:
            many = len(sights)
            for length in range(1, 4):
                for numbers in itertools.product(range(-1, many + 1), repeat=length):
                    inside = min(numbers) >= 0 and max(numbers) < many and len(set(numbers)) == length > 1
                    self.assertIs(is_clash(sights, numbers), inside and clashes(sights, numbers))
            for numbers in itertools.permutations(range(many), min(4, many)):
                self.assertIs(is_clash(sights, numbers), len(numbers) > 1 and clashes(sights, numbers))

    def test_things_of_every_kind_are_no_clash(self):
        sights = ((LOW, LOW), (HIGH, LOW), (UNIT, LOW))
        self.assertIs(is_clash(sights, (0, 1)), True)
        for thing in drawn.things() + [(False, True), (0, True), [0, 1], (0, 1.5), (1, 0), ((0, 1),), (0,), "01", (0, 1, 1)]:
            self.assertIs(is_clash(sights, thing), False, thing)


class Sure(unittest.TestCase):
    def all_fits(self, draw, sights, many):
        """FITS led about from one: each group that ways join turned by itself, what no base tells of led anyhow."""
        fit, own = fit_for(sights), bases(sights)
        start = table_from([sights[base][0] for base in own], len(fit))
        groups = list(range(len(sights)))
        for one, other in itertools.combinations(range(len(sights)), 2):
            if product(sights[one][0], sights[other][0]) != exact.number(0):
                groups = [groups[one] if group == groups[other] else group for group in groups]
        for _ in range(many):
            turns = [draw.randrange(8) for _ in sights]
            rest = len(fit) - len(own)
            block = deeds_table(rest, drawn.deeds(draw, rest, 9)) if rest > 1 else ((turned_ray(ONE, draw.randrange(8)),),)
            led = [turned(unit(len(fit), at), turns[groups[base]]) for at, base in enumerate(own)]
            led += [(ZERO,) * len(own) + tuple(block[row][at] for row in range(rest)) for at in range(rest)]
            about = table_product(table_product(start, columns_of(led)), table_mirrored(start))
            yield table_product(fit, about)

    def test_against_many_fits(self):
        draw = drawn.rng(6)
        settled = {True: 0, False: 0}
        for sights in sights_drawn(7, 30) + [ring_sights(0, 0, 0), ((UNIT, LOW), (OTHER_UNIT, HIGH))]:
            found = sure_sizes(sights)
            sizes = [[set() for _ in row] for row in found]
            for fit in self.all_fits(draw, sights, 40):
                for row, column in itertools.product(range(len(fit)), repeat=2):
                    sizes[row][column].add(size_of(fit[row][column]))
            self.assertIs(is_fit(sights, fit), True)
            for row, column in itertools.product(range(len(found)), repeat=2):
                own = found[row][column]
                self.assertEqual(own, sizes[row][column].pop() if len(sizes[row][column]) == 1 else None)
                self.assertTrue(own is None or is_ray(own))
                settled[own is None] += 1
        self.assertTrue(min(settled.values()) > 30, settled)

    def test_edges(self):
        self.assertEqual(sure_sizes(((UNIT, UNIT),)), ((ONE, ZERO), (ZERO, ONE)))
        self.assertEqual(sure_sizes(((UNIT, UNIT), (OTHER_UNIT, OTHER_UNIT))), ((ONE, ZERO), (ZERO, ONE)))
        self.assertEqual(sure_sizes(((LOW, LOW),)), ((None, None), (None, None)))
        half = (1, 0, 0, 0, 2)
        self.assertEqual(sure_sizes(((UNIT, LOW), (OTHER_UNIT, HIGH), (LOW, UNIT))), ((half, half), (half, half)))
        self.assertEqual(sure_sizes(((unit(4, 0), unit(4, 3)), (unit(4, 1), unit(4, 2)))),
                         ((ZERO, ZERO, None, None),) * 2 + ((ZERO, ONE, ZERO, ZERO), (ONE, ZERO, ZERO, ZERO)))
        self.assertEqual(sure_sizes(tuple((unit(4, at), unit(4, at)) for at in (2, 0, 1))),
                         tuple(tuple(ONE if i == j else ZERO for j in range(4)) for i in range(4)))


class Wrong(unittest.TestCase):
    def test_unfit_ahead_of_all_else(self):
        third = (joined(3, 0, 1), unit(3, 0))
        for sights in (((UNIT, UNIT), (LOW, LOW)), ((UNIT, UNIT), (LOW, OTHER_UNIT)), ((UNIT, UNIT), (LOW, LOW), (HIGH, LOW)),
                       ((unit(3, 0), unit(3, 0)), (unit(3, 2), unit(3, 0)), third),
                       (third, (unit(3, 0), unit(3, 0)), (unit(3, 2), unit(3, 0)))):
            for function, *more in ((fit_for,), (is_fit, None), (is_fit, drawn.still(2)), (clash_of,), (is_clash, None),
                                    (is_clash, (0, 1)), (sure_sizes,)):
                with self.assertRaises(Unfit):
                    function(sights, *more)

    def test_a_base_may_come_behind_what_is_made_of_it(self):
        sights = ((unit(3, 0), unit(3, 0)), (joined(3, 0, 1), joined(3, 0, 1)), (unit(3, 1), unit(3, 1)))
        self.assertTrue(fits(sights, fit_for(sights)))


if __name__ == "__main__":
    unittest.main()
