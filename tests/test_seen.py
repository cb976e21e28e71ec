import copy
import itertools
import random
import unittest
from fractions import Fraction

from lotwander.errors import ChanceError, NoBegin, NoMarks, NoWalk
from lotwander.seen import chance_of, likeliest, where
from lotwander.walks import after
from tests.samples import (HALF, ONE, RING, STAY, SWAP, THIRDS, WIDE, WRONG_SEEN, WRONG_WALKS, Odd, is_told_fraction,
                           narrow_walk, number, pair, share, some_walk, spread_of, wrong_begins, wrong_marks)

NOUGHT = (0, 1)
GREAT = 10 ** 30
ALL = (chance_of, where, likeliest)


def some_begin(source, count):
    parts = [source.choice((0, 0, 1, 2, 3)) for room in range(count)]
    parts[source.randrange(count)] += 1
    return [pair(Fraction(part, sum(parts))) for part in parts]


def begin_in(room, count):
    return [ONE if other == room else NOUGHT for other in range(count)]


def chance_of_way(rows, begin, way):
    chance = number(begin[way[0]])
    for room, target in zip(way, way[1:]):
        chance = chance and chance * rows[room][target]
    return chance


def ways_that_show(walk, begin, marks, seen):
    # All lists of rooms, in order, that show the marks, each with its chance.
    rows = [[share(walk, room, target) for target in range(len(walk))] for room in range(len(walk))]
    rooms = [[room for room in range(len(walk)) if marks[room] == mark] for mark in seen]
    return [(list(way), chance_of_way(rows, begin, way)) for way in itertools.product(*rooms)]


def cases(seed, turns):
    source = random.Random(seed)
    for turn in range(turns):
        for count in range(1, 9):
            walk = some_walk(source) if turn % 2 else narrow_walk(source, count)
            begin = some_begin(source, len(walk))
            marks = [source.choice((-1, 0, 7)) for room in walk]
            longest = 5 if len(walk) < 5 else 3
            seen = [source.choice(marks + [0]) for step in range(source.randint(1, longest))]
            yield walk, begin, marks, seen


class ByAllWaysTest(unittest.TestCase):
    def check(self, walk, begin, marks, seen):
        ways = ways_that_show(walk, begin, marks, seen)
        whole = sum(chance for way, chance in ways)
        self.assertEqual(chance_of(walk, begin, marks, seen), pair(Fraction(whole)))
        told = where(walk, begin, marks, seen)
        way_told = likeliest(walk, begin, marks, seen)
        if whole == 0:
            self.assertIsNone(told)
            self.assertIsNone(way_told)
            return
        self.assertIsInstance(told, list)
        there = [sum(chance for way, chance in ways if way[-1] == room) for room in range(len(walk))]
        self.assertEqual(told, [pair(Fraction(part) / whole) for part in there])
        greatest = max(chance for way, chance in ways)
        self.assertIsInstance(way_told, list)
        self.assertTrue(all(type(room) is int for room in way_told))
        self.assertEqual(way_told, min(way for way, chance in ways if chance == greatest))

    def test_held_against_all_ways(self):
        for walk, begin, marks, seen in cases(71, 60):
            with self.subTest(walk=walk, begin=begin, marks=marks, seen=seen):
                self.check(walk, begin, marks, seen)

    def test_many_ways_alike(self):
        # Where all shares are like, the first in order is told among very many.
        for count in range(1, 9):
            even = tuple(tuple((room, (1, count)) for room in range(count)) for start in range(count))
            for seen in ([0], [0, 0, 0], [1, 0, 1], [0, 1, 1], [2, 0], [0, 2]):
                self.check(even, [(1, count)] * count, [room % 2 for room in range(count)], seen)

    def test_one_step_back_or_on(self):
        for seen in itertools.product((0, 1), repeat=4):
            for begin in (begin_in(0, 2), begin_in(1, 2), [HALF, HALF], [(1, 4), (3, 4)]):
                self.check(THIRDS, begin, [0, 1], list(seen))
                self.check(THIRDS, begin, [1, 1], list(seen))
                self.check(SWAP, begin, [0, 1], list(seen))

    def test_the_chances_of_all_lists_of_marks_come_to_one(self):
        for walk, begin, marks, seen in cases(72, 6):
            for length in (1, 2, 3):
                lists = itertools.product(sorted(set(marks)), repeat=length)
                self.assertEqual(sum(number(chance_of(walk, begin, marks, list(one))) for one in lists), 1)


class ChanceOfTest(unittest.TestCase):
    def test_what_is_told(self):
        self.assertEqual(chance_of(STAY, [ONE], [5], [5]), ONE)
        self.assertEqual(chance_of(STAY, [ONE], [5], [5] * 50), ONE)
        self.assertEqual(chance_of(STAY, [ONE], [5], [5, 5, 4]), NOUGHT)
        self.assertEqual(chance_of(THIRDS, [ONE, NOUGHT], [0, 1], [0, 0, 1]), (2, 9))
        self.assertEqual(chance_of(THIRDS, [HALF, HALF], [0, 1], [0, 0, 1]), (1, 9))
        self.assertEqual(chance_of(THIRDS, [HALF, HALF], [0, 0], [0, 0, 0]), ONE)
        self.assertEqual(chance_of(WIDE, [(1, 8)] * 8, list(range(8)), [3, 1, 4, 1]), (1, 4096))

    def test_the_beginning_is_seen_too(self):
        self.assertEqual(chance_of(THIRDS, [(1, 5), (4, 5)], [3, 4], [3]), (1, 5))
        self.assertEqual(chance_of(THIRDS, [(1, 5), (4, 5)], [3, 4], [4]), (4, 5))
        self.assertEqual(chance_of(THIRDS, [(1, 5), (4, 5)], [3, 4], [4, 4]), NOUGHT)
        self.assertEqual(chance_of(THIRDS, [(1, 5), (4, 5)], [3, 4], [4, 3]), (4, 5))

    def test_many_marks(self):
        self.assertEqual(chance_of(THIRDS, [ONE, NOUGHT], [0, 1], [0] * 301), (1, 3 ** 300))
        self.assertEqual(chance_of(RING, [(1, 8)] * 8, list(range(8)), list(range(8)) * 100), (1, 8))
        fair = (((0, HALF), (1, HALF)), ((0, HALF), (1, HALF)))
        self.assertEqual(chance_of(fair, [HALF, HALF], [1, 2], [1, 2, 2] * 100), (1, 2 ** 300))

    def test_great_numbers(self):
        walk = (((0, (GREAT - 1, GREAT)), (1, (1, GREAT))), ((1, ONE),))
        begin = [(1, GREAT + 1), (GREAT, GREAT + 1)]
        self.assertEqual(chance_of(walk, begin, [GREAT, -GREAT], [GREAT, -GREAT]), (1, GREAT * (GREAT + 1)))
        self.assertEqual(chance_of(walk, begin, [GREAT, GREAT + 1], [GREAT + 1] * 9), (GREAT, GREAT + 1))

    def test_kind(self):
        for walk, begin, marks, seen in cases(73, 3):
            told = chance_of(walk, begin, marks, seen)
            self.assertTrue(is_told_fraction(told), told)


class WhereTest(unittest.TestCase):
    def test_what_is_told(self):
        self.assertEqual(where(STAY, [ONE], [5], [5, 5]), [ONE])
        self.assertEqual(where(THIRDS, [(1, 5), (4, 5)], [0, 0], [0]), [(1, 5), (4, 5)])
        self.assertEqual(where(THIRDS, [ONE, NOUGHT], [0, 0], [0, 0, 0]), after(THIRDS, 0, 2))
        self.assertEqual(where(THIRDS, [ONE, NOUGHT], [0, 1], [0, 0, 1]), [NOUGHT, ONE])
        row = (((1, HALF), (2, HALF)), ((1, (1, 4)), (3, (3, 4))), ((2, HALF), (3, HALF)), ((3, ONE),))
        self.assertEqual(where(row, begin_in(0, 4), [0, 1, 1, 2], [0, 1, 1]), [NOUGHT, (1, 3), (2, 3), NOUGHT])
        self.assertEqual(where(row, begin_in(0, 4), [0, 1, 1, 2], [0, 1, 1, 1]), [NOUGHT, (1, 5), (4, 5), NOUGHT])

    def test_with_one_mark_for_all_it_is_where_the_steps_lead(self):
        for walk, begin, marks, seen in cases(74, 5):
            for start in range(len(walk)):
                for steps in (0, 1, 4):
                    told = where(walk, begin_in(start, len(walk)), [9] * len(walk), [9] * (steps + 1))
                    self.assertEqual(told, after(walk, start, steps))

    def test_shares_come_to_one_and_only_where_the_mark_is(self):
        for walk, begin, marks, seen in cases(75, 10):
            told = where(walk, begin, marks, seen)
            if told is not None:
                self.assertEqual(len(told), len(walk))
                self.assertTrue(all(is_told_fraction(part) and part[0] >= 0 for part in told))
                self.assertEqual(sum(number(part) for part in told), 1)
                self.assertTrue(all(marks[room] == seen[-1] for room, part in enumerate(told) if part[0]))

    def test_many_marks(self):
        self.assertEqual(where(RING, [(1, 8)] * 8, [0] * 7 + [1], [0] * 5 + [1]), begin_in(7, 8))
        self.assertEqual(where(RING, [(1, 8)] * 8, [0] * 7 + [1], ([1] + [0] * 7) * 50 + [1, 0]), begin_in(0, 8))
        self.assertEqual(where(WIDE, [(1, 8)] * 8, [0, 1] * 4, [0, 1] * 150), [NOUGHT, (1, 4)] * 4)


class LikeliestTest(unittest.TestCase):
    def test_what_is_told(self):
        self.assertEqual(likeliest(STAY, [ONE], [5], [5, 5, 5]), [0, 0, 0])
        self.assertEqual(likeliest(THIRDS, [ONE, NOUGHT], [0, 0], [0]), [0])
        self.assertEqual(likeliest(THIRDS, [ONE, NOUGHT], [0, 0], [0, 0]), [0, 1])
        self.assertEqual(likeliest(THIRDS, [ONE, NOUGHT], [0, 0], [0, 0, 0]), [0, 1, 0])
        self.assertEqual(likeliest(THIRDS, [ONE, NOUGHT], [0, 1], [0, 0, 0]), [0, 0, 0])

    def test_the_whole_way_counts_not_each_step(self):
        # The likelier first step leads to where the ways part.
        walk = (((1, (3, 5)), (2, (2, 5))), ((3, (1, 3)), (4, (1, 3)), (5, (1, 3))), ((5, ONE),), ((3, ONE),),
                ((4, ONE),), ((5, ONE),))
        marks = [0, 1, 1, 2, 2, 2]
        self.assertEqual(likeliest(walk, begin_in(0, 6), marks, [0, 1]), [0, 1])
        self.assertEqual(likeliest(walk, begin_in(0, 6), marks, [0, 1, 2]), [0, 2, 5])
        # Nor where the walker is behind the marks: 3 is come to by two ways, each less likely than the one to 4.
        walk = (spread_of({1: 3, 2: 3, 5: 4}), ((3, ONE),), ((3, ONE),), ((3, ONE),), ((4, ONE),), ((4, ONE),))
        marks = [0, 1, 1, 2, 2, 1]
        self.assertEqual(where(walk, begin_in(0, 6), marks, [0, 1, 2]), [NOUGHT] * 3 + [(3, 5), (2, 5), NOUGHT])
        self.assertEqual(likeliest(walk, begin_in(0, 6), marks, [0, 1, 2]), [0, 5, 4])

    def test_of_several_the_first_in_order(self):
        self.assertEqual(likeliest(WIDE, [(1, 8)] * 8, [0] * 8, [0] * 40), [0] * 40)
        self.assertEqual(likeliest(WIDE, [(1, 8)] * 8, [5, 4, 4, 5, 6, 6, 4, 5], [6, 4, 5, 6]), [4, 1, 0, 4])
        # From 0 by 1 or 2 to 4 or 3: the earlier room decides, not the later one.
        walk = (((1, HALF), (2, HALF)), ((4, ONE),), ((3, ONE),), ((3, ONE),), ((4, ONE),))
        self.assertEqual(likeliest(walk, begin_in(0, 5), [0, 1, 1, 2, 2], [0, 1, 2]), [0, 1, 4])
        # The first room decides too, whatever is less likely on the way.
        walk = (((3, HALF), (4, HALF)), ((2, ONE),), ((2, ONE),), ((3, ONE),), ((4, ONE),))
        self.assertEqual(likeliest(walk, [(2, 3), (1, 3), NOUGHT, NOUGHT, NOUGHT], [0, 0, 1, 1, 1], [0, 1]), [0, 3])
        self.assertEqual(likeliest(walk, [(3, 5), (2, 5), NOUGHT, NOUGHT, NOUGHT], [0, 0, 1, 1, 1], [0, 1]), [1, 2])

    def test_ways_that_hardly_differ(self):
        more = (GREAT + 1, 2 * GREAT + 1)
        walk = (((1, (GREAT, 2 * GREAT + 1)), (2, more)), ((1, ONE),), ((2, ONE),))
        self.assertEqual(likeliest(walk, begin_in(0, 3), [0, 1, 1], [0, 1, 1]), [0, 2, 2])
        turned = (((1, more), (2, (GREAT, 2 * GREAT + 1))), ((1, ONE),), ((2, ONE),))
        self.assertEqual(likeliest(turned, begin_in(0, 3), [0, 1, 1], [0, 1, 1]), [0, 1, 1])

    def test_many_marks(self):
        self.assertEqual(likeliest(RING, [(1, 8)] * 8, [0] * 7 + [1], ([1] + [0] * 7) * 40),
                         [7, 0, 1, 2, 3, 4, 5, 6] * 40)
        self.assertEqual(likeliest(THIRDS, [HALF, HALF], [0, 0], [0] * 400), [1, 0] * 200)


class NoneTest(unittest.TestCase):
    def test_none_where_it_can_not_be_seen(self):
        for seen in ([2], [0, 0, 2], [2, 0], [1, 1], [0, 1, 1], [0, 1, 1, 0], [-1], [GREAT]):
            for begin in ([ONE, NOUGHT], [HALF, HALF]):
                self.assertEqual(chance_of(THIRDS, begin, [0, 1], seen), NOUGHT)
                self.assertIsNone(where(THIRDS, begin, [0, 1], seen))
                self.assertIsNone(likeliest(THIRDS, begin, [0, 1], seen))

    def test_a_begin_with_noughts_in_it(self):
        for room in range(8):
            begin = begin_in(room, 8)
            marks = list(range(8))
            for mark in range(8):
                told = mark == room
                self.assertEqual(chance_of(RING, begin, marks, [mark]), ONE if told else NOUGHT)
                self.assertEqual(where(RING, begin, marks, [mark]), begin if told else None)
                self.assertEqual(likeliest(RING, begin, marks, [mark]), [room] if told else None)
        self.assertEqual(chance_of(THIRDS, [NOUGHT, ONE], [0, 0], [0, 0]), ONE)
        self.assertEqual(where(THIRDS, [NOUGHT, ONE], [0, 0], [0, 0]), [ONE, NOUGHT])
        self.assertEqual(likeliest(THIRDS, [NOUGHT, ONE], [0, 0], [0, 0]), [1, 0])


class RefusalsTest(unittest.TestCase):
    def test_a_begin_that_is_none(self):
        for asked in ALL:
            for walk in (STAY, SWAP, RING):
                for turn, begin in enumerate(wrong_begins(len(walk))):
                    with self.subTest(asked=asked.__name__, rooms=len(walk), turn=turn):
                        with self.assertRaises(NoBegin):
                            asked(walk, begin, [0] * len(walk), [0])

    def test_marks_that_are_none(self):
        for asked in ALL:
            for walk in (STAY, SWAP, RING):
                for turn, marks in enumerate(wrong_marks(len(walk))):
                    with self.subTest(asked=asked.__name__, rooms=len(walk), turn=turn):
                        with self.assertRaises(NoMarks):
                            asked(walk, begin_in(0, len(walk)), marks, [0])

    def test_what_was_seen_if_it_is_none(self):
        for asked in ALL:
            for walk in (STAY, SWAP, RING):
                for turn, seen in enumerate(WRONG_SEEN):
                    with self.subTest(asked=asked.__name__, rooms=len(walk), turn=turn):
                        with self.assertRaises(NoMarks):
                            asked(walk, begin_in(0, len(walk)), [0] * len(walk), seen)

    def test_true_is_no_mark_that_was_seen_even_behind_one_that_can_not_be(self):
        for asked in ALL:
            for seen in ([5, True], [5, 5, "0"], [5, None]):
                with self.assertRaises(NoMarks):
                    asked(SWAP, [ONE, NOUGHT], [0, 1], seen)

    def test_no_walk_goes_ahead_of_all(self):
        for asked in ALL:
            for turn, walk in enumerate(WRONG_WALKS):
                for begin in ([ONE], None, Odd()):
                    for marks in ([0], None, Odd()):
                        for seen in ([0], [], Odd()):
                            with self.subTest(asked=asked.__name__, turn=turn):
                                with self.assertRaises(NoWalk):
                                    asked(walk, begin, marks, seen)

    def test_no_begin_goes_ahead_of_no_marks(self):
        for asked in ALL:
            for turn, begin in enumerate(wrong_begins(2)):
                for marks in (None, [0], (0, 1), [0, True], Odd()):
                    for seen in ([0], [], None, [True], Odd()):
                        with self.subTest(asked=asked.__name__, turn=turn):
                            with self.assertRaises(NoBegin):
                                asked(SWAP, begin, marks, seen)

    def test_taken_as_any_refusal(self):
        for asked in ALL:
            for kind in (ChanceError, ValueError):
                for begin, marks, seen in (([HALF], [0], [0]), ([ONE], (0,), [0]), ([ONE], [0], [])):
                    with self.assertRaises(kind):
                        asked(STAY, begin, marks, seen)


class TwoCallsTest(unittest.TestCase):
    def test_new_lists_each_time_and_nothing_changed(self):
        for walk, begin, marks, seen in ((STAY, [ONE], [0], [0]), (THIRDS, [HALF, HALF], [0, 1], [0, 0, 1]),
                                         (WIDE, [(1, 8)] * 8, [0] * 8, [0] * 5), (SWAP, [ONE, NOUGHT], [0, 1], [0])):
            for asked in (where, likeliest):
                kept = copy.deepcopy((walk, begin, marks, seen))
                first = asked(walk, begin, marks, seen)
                second = asked(walk, begin, marks, seen)
                expected = list(second)
                self.assertEqual(first, second)
                for other in (second, begin, marks, seen):
                    self.assertIsNot(first, other)
                first[0] = "other"
                first.append("more")
                self.assertEqual(second, expected)
                self.assertEqual((walk, begin, marks, seen), kept)
                self.assertEqual(asked(*copy.deepcopy(kept)), expected)

    def test_chances_are_equal_each_time_and_nothing_changed(self):
        for case in cases(76, 3):
            kept = copy.deepcopy(case)
            told = chance_of(*case)
            self.assertEqual(chance_of(*copy.deepcopy(kept)), told)
            self.assertEqual(case, kept)


if __name__ == "__main__":
    unittest.main()
