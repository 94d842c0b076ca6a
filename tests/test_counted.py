"""[11]: counted.py, by counting out and against another way to reckon."""

import itertools
import unittest

import drawn
import exact
import onewire
from eighthturns.circuits import circuit_table
from eighthturns.counted import (least_moved, least_shift, letters_moved, letters_of, middle_of, near_both, next_reading,
                                 number_of_reading, reading_by_number, tables_at_most, tables_many, way_between)
from eighthturns.readings import fewest_eighths, is_reading, quarter_tables, reading_of, reading_table
from eighthturns.rounds import comes_round
from eighthturns.tables import still_table, table_mirrored, table_power, table_product

QUARTERS = quarter_tables()
BARE = still_table(2)


def letters_of_reading(reading):
    return ((2,) if reading[0] else ()) + reading[1]


def reading_with(letters, rest):
    """The READING with these LETTERS."""
    if letters[:1] == (2,):
        return (True, letters[1:], rest)
    return (False, letters, rest)


def are_letters(thing):
    return (isinstance(thing, tuple) and all(type(letter) is int and letter in (0, 1) for letter in thing[1:])
            and all(type(letter) is int and letter in (0, 1, 2) for letter in thing[:1]))


def in_order(most):
    """All READINGS of at most so many eighths, put in ORDER by its own words."""
    found = [(len(letters), letters, place) for letters in onewire.all_letters(most) for place in range(192)]
    return [reading_with(letters, QUARTERS[place]) for _, letters, place in sorted(found)]


def tables(seed, lengths):
    """TABLES of as many eighths as these numbers, with some rest."""
    draw = drawn.rng(seed)
    found = []
    for length in lengths:
        letters = onewire.letters(draw, length)
        found.append(reading_table(reading_with(letters, draw.choice(QUARTERS))))
    return found


class Numbers(unittest.TestCase):
    def test_how_many(self):
        self.assertEqual(tables_many(0), 192)
        self.assertEqual(tables_at_most(0), 192)
        self.assertEqual(tables_many(1), 576)
        total = 192
        for many in range(1, 1001):
            total += tables_many(many)
            self.assertEqual(tables_at_most(many), total)
            self.assertEqual(tables_many(many + 1), 2 * tables_many(many))
        for many in range(8):
            self.assertEqual(tables_at_most(many), 192 * len(onewire.all_letters(many)))

    def test_all_tables_of_one_eighth_are_as_many(self):
        found = {reading_table(reading) for reading in in_order(1)}
        self.assertEqual(len(found), tables_at_most(1))
        self.assertEqual([fewest_eighths(table) for table in found].count(1), tables_many(1))

    def test_in_order(self):
        readings = list(enumerate(in_order(3)))
        for number, reading in readings[:800] + readings[800::13]:
            self.assertEqual(number_of_reading(reading), number)
            self.assertEqual(repr(reading_by_number(number)), repr(reading))

    def test_next(self):
        readings = in_order(2)
        for number in list(range(0, len(readings) - 1, 17)) + [190, 191, 192, 767, 768]:
            self.assertEqual(repr(next_reading(readings[number])), repr(readings[number + 1]))

    def test_the_last_of_so_many_eighths_and_the_next_one(self):
        for many in (0, 1, 2, 7, 64, 199, 200):
            last = reading_with(((2,) + (1,) * (many - 1)) if many else (), QUARTERS[-1])
            after = reading_with((0,) * (many + 1), QUARTERS[0])
            self.assertEqual(number_of_reading(last), tables_at_most(many) - 1)
            self.assertEqual(reading_by_number(tables_at_most(many) - 1), last)
            self.assertEqual(reading_by_number(tables_at_most(many)), after)
            self.assertEqual(next_reading(last), after)

    def test_many_eighths(self):
        draw = drawn.rng(1)
        drawn_ones = []
        for _ in range(60):
            letters, place = onewire.letters(draw, draw.choice((2, 5, 40, 199, 200))), draw.randrange(192)
            drawn_ones.append((len(letters), letters, place))
        numbers = [number_of_reading(reading_with(letters, QUARTERS[place])) for _, letters, place in drawn_ones]
        self.assertEqual([own for _, own in sorted(zip(numbers, drawn_ones))], sorted(drawn_ones))
        for number, (_, letters, place) in zip(numbers, drawn_ones):
            self.assertEqual(reading_by_number(number), reading_with(letters, QUARTERS[place]))
            self.assertEqual(number_of_reading(next_reading(reading_by_number(number))), number + 1)
        for _ in range(40):
            number = draw.randrange(tables_at_most(200))
            self.assertIs(is_reading(reading_by_number(number)), True)
            self.assertEqual(number_of_reading(reading_by_number(number)), number)


class Letters(unittest.TestCase):
    def test_of_a_table(self):
        draw = drawn.rng(2)
        for length in (0, 1, 2, 3, 9, 50, 200):
            for _ in range(3):
                letters = onewire.letters(draw, length)
                table = reading_table(reading_with(letters, draw.choice(QUARTERS)))
                self.assertEqual(repr(letters_of(table)), repr(letters))

    def test_moved(self):
        draw = drawn.rng(3)
        for table in tables(3, (0, 0, 1, 1, 2, 5, 30, 200)):
            for length in (0, 1, 2, 6, 40, 200):
                letters = onewire.letters(draw, length)
                moved = letters_moved(table, letters)
                self.assertTrue(are_letters(moved))
                for rest in (QUARTERS[0], draw.choice(QUARTERS)):
                    product = table_product(table, reading_table(reading_with(letters, rest)))
                    self.assertEqual(letters_of_reading(reading_of(product)), moved)

    def test_some_hundred_tables(self):
        draw = drawn.rng(21)
        for table in tables(21, (0, 0, 1, 2, 3, 5, 9, 20) * 40):
            own, letters = letters_of(table), onewire.letters(draw, draw.randint(0, 200))
            moved = letters_moved(table, letters)
            self.assertEqual(letters_moved(table, ()), own)
            self.assertEqual(onewire.apart(own, moved), len(letters))
            self.assertEqual(letters_moved(table_mirrored(table), moved), letters)
            spot, shift = least_moved(table), least_shift(table)
            self.assertEqual(onewire.apart(spot, letters_moved(table, spot)), shift)
            self.assertTrue(onewire.apart(letters, moved) >= shift)

    def test_apart_as_there_are_eighths(self):
        draw = drawn.rng(4)
        for _ in range(25):
            one, other = [onewire.letters(draw, draw.choice((0, 1, 2, 3, 9))) for _ in range(2)]
            shared = onewire.letters(draw, draw.randint(0, 3))
            if shared and 2 not in one and 2 not in other:
                one, other = shared + one, shared + other
            both = [reading_table(reading_with(own, draw.choice(QUARTERS))) for own in (one, other)]
            eighths = fewest_eighths(table_product(table_mirrored(both[0]), both[1]))
            self.assertEqual(eighths, onewire.apart(one, other))
            ahead = tables(draw.randint(0, 99), (draw.randint(0, 5),))[0]
            moved = [letters_moved(ahead, own) for own in (one, other)]
            self.assertEqual(onewire.apart(*moved), onewire.apart(one, other))
            self.assertEqual(len(way_between(one, other)), eighths + 1)


class Ways(unittest.TestCase):
    def pairs(self, seed):
        draw = drawn.rng(seed)
        small = list(itertools.product(onewire.all_letters(3), repeat=2))
        for _ in range(60):
            shared = onewire.letters(draw, draw.choice((1, 2, 10, 100)))
            small.append(tuple(shared + tuple(draw.randrange(2) for _ in range(draw.choice((0, 1, 7, 99))))
                               for _ in range(2)))
        return small

    def test_ways(self):
        for one, other in self.pairs(5):
            way = way_between(one, other)
            self.assertIsInstance(way, list)
            self.assertTrue(all(are_letters(own) for own in way))
            self.assertEqual((way[0], way[-1]), (one, other))
            self.assertEqual(len(set(way)), len(way))
            self.assertTrue(all(onewire.apart(left, right) == 1 for left, right in zip(way, way[1:])))
            self.assertEqual(len(way), onewire.apart(one, other) + 1)
            self.assertEqual(way_between(other, one), way[::-1])
        self.assertEqual(way_between((), ()), [()])

    def test_the_middle_lies_on_all_ways(self):
        draw = drawn.rng(6)
        all_of_them = onewire.all_letters(3)
        for _ in range(400):
            three = [draw.choice(all_of_them) for _ in range(3)]
            ways = [way_between(*pair) for pair in itertools.combinations(three, 2)]
            on_all = [own for own in ways[0] if own in ways[1] and own in ways[2]]
            self.assertEqual(len(on_all), 1)
            self.assertEqual(middle_of(*three), on_all[0])
        for one, other in self.pairs(7)[-40:]:
            third = one[:len(one) // 2] + (1, 0)
            ways = [way_between(*pair) for pair in itertools.combinations((one, other, third), 2)]
            self.assertTrue(all(middle_of(one, other, third) in way for way in ways))
        self.assertEqual(middle_of((), (), ()), ())
        self.assertEqual(middle_of((2, 1), (2, 1), (0,)), (2, 1))

    def counted(self, between, most):
        """How many are near both ends of a way of this length, by where their own way leaves it."""
        total = 0
        for at in range(between + 1):
            branches = 3 - (at > 0) - (at < between)
            high = most - max(at, between - at)
            if high >= 0:
                total += 1 + branches * (2 ** high - 1)
        return total

    def test_near_both(self):
        longer = onewire.all_letters(8)
        draw = drawn.rng(8)
        for one, other in [draw.choice(self.pairs(9)[:484]) for _ in range(12)] + [((), ()), ((0,), ()), ((1, 1), (1, 0))]:
            for most in range(6):
                wanted = [own for own in longer if max(onewire.apart(own, one), onewire.apart(own, other)) <= most]
                if most + min(len(one), len(other)) <= 8:
                    self.assertEqual(near_both(one, other, most), len(wanted))

    def test_near_both_far_away(self):
        for one, other in self.pairs(10)[-60:] + [((), (1,) * 200), ((0,) * 200, (2,) + (0,) * 199)]:
            between = onewire.apart(one, other)
            for most in (0, 1, between // 2 - 1, between // 2, between // 2 + 1, between, 1000):
                if most >= 0:
                    self.assertEqual(near_both(one, other, most), self.counted(between, most))

    def test_near_both_with_0(self):
        self.assertEqual(near_both((0, 1), (0, 1), 0), 1)
        self.assertEqual(near_both((0, 1), (0,), 0), 0)
        self.assertEqual(near_both((), (2,), 0), 0)


class Shifts(unittest.TestCase):
    def test_by_search(self):
        near = onewire.all_letters(4)
        seen = set()
        for table in tables(11, (0, 1, 2, 3, 4) * 6):
            shifts = {own: onewire.apart(own, letters_moved(table, own)) for own in near}
            least = min(shifts.values())
            nearest = [own for own in near if shifts[own] == least]
            fewest = [own for own in nearest if len(own) == min(map(len, nearest))]
            self.assertEqual(len(fewest), 1)
            self.assertEqual(least_shift(table), least)
            self.assertEqual(repr(least_moved(table)), repr(fewest[0]))
            seen.add((least, len(fewest[0])))
        self.assertTrue({(0, 0), (0, 1), (1, 0), (2, 0), (3, 0)} <= seen, seen)

    def test_led_about(self):
        # What is led about by others is moved as far, elsewhere.
        draw = drawn.rng(12)
        for table in tables(12, (0, 1, 2, 3, 6)):
            for other in tables(13, (1, 2, 5, 60)):
                about = table_product(table_product(other, table), table_mirrored(other))
                self.assertEqual(least_shift(about), least_shift(table))
                moved = least_moved(about)
                self.assertEqual(onewire.apart(moved, letters_moved(about, moved)), least_shift(about))
                for _ in range(4):
                    other_one = onewire.letters(draw, draw.choice((0, 1, 3, 60)))
                    self.assertTrue(onewire.apart(other_one, letters_moved(about, other_one)) >= least_shift(about))

    def test_which_come_round(self):
        for table in tables(14, (0, 1, 2, 3, 4) * 6):
            twice = table_product(table, table)
            self.assertEqual(comes_round(table), least_shift(twice) == 0)
            if least_shift(table) > 1:
                self.assertEqual([least_shift(table_power(table, many)) for many in (2, 3, 5)],
                                 [many * least_shift(table) for many in (2, 3, 5)])

    def test_edges(self):
        self.assertEqual((least_shift(BARE), least_moved(BARE)), (0, ()))
        turn = circuit_table((1, (("T", 0),)))
        self.assertEqual((least_shift(turn), least_moved(turn)), (1, ()))
        self.assertEqual(least_shift(table_product(turn, turn)), 0)
        deep = reading_table((True, (0, 1) * 109, QUARTERS[5]))
        self.assertEqual(onewire.apart(least_moved(deep), letters_moved(deep, least_moved(deep))), least_shift(deep))
        self.assertEqual(exact.table_values(BARE), onewire.STILL)


if __name__ == "__main__":
    unittest.main()
