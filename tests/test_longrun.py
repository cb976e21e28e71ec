import copy
import random
import unittest
from fractions import Fraction
from math import gcd

from lotwander.coming import chances
from lotwander.errors import ChanceError, NoRooms, NoWalk
from lotwander.longrun import beat, ends, long_run
from tests.samples import (HALF, ONE, RING, STAY, SWAP, THIRDS, WIDE, WRONG_WALKS, Odd, gamble, is_told_fraction,
                           many_walks, number, reach, share, subsets, wrong_starts)

NOUGHT = (0, 1)
# The end is 0 and 5, with the beat 2; the other rooms can be left for good.
ONE_END = (((5, ONE),), ((0, (1, 3)), (2, (1, 3)), (4, (1, 3))), ((3, HALF), (4, HALF)), ((2, ONE),),
           ((1, HALF), (4, HALF)), ((0, ONE),))
# From room 7 to the three ends: 0 alone, the ring 1 2 3, and 4 5, each with shares of its own.
THREE_ENDS = (((0, ONE),), ((2, ONE),), ((3, ONE),), ((1, ONE),), ((4, HALF), (5, HALF)), ((4, ONE),),
              ((0, HALF), (7, HALF)), ((1, (1, 6)), (4, HALF), (6, (1, 3))))


def ring(count):
    return tuple((((room + 1) % count, ONE),) for room in range(count))


def ends_by_trying(walk):
    can = reach(walk)
    found = []
    for rooms in subsets(len(walk)):
        if rooms and all([other for other in range(len(walk)) if can[room][other]] == rooms for room in rooms):
            found.append(rooms)
    return sorted(found)


def beat_by_trying(walk, start):
    # With 8 rooms a way to a round, the round and the way back have 22 steps at most.
    here = {start}
    told = 0
    for steps in range(1, 31):
        here = {target for room in here for target, part in walk[room]}
        if start in here:
            told = gcd(told, steps)
    return told


def moved(walk, values):
    return [sum(values[room] * share(walk, room, target) for room in range(len(walk))) for target in range(len(walk))]


class EndsTest(unittest.TestCase):
    def test_like_trying_all_sets_of_rooms(self):
        for walk in many_walks(21, 12):
            with self.subTest(walk=walk):
                self.assertEqual(ends(walk), ends_by_trying(walk))

    def test_kinds(self):
        for walk in many_walks(22, 5):
            told = ends(walk)
            self.assertIsInstance(told, list)
            self.assertTrue(told)
            for rooms in told:
                self.assertIsInstance(rooms, list)
                self.assertTrue(all(type(room) is int for room in rooms))

    def test_one_end(self):
        self.assertEqual(ends(STAY), [[0]])
        self.assertEqual(ends(SWAP), [[0, 1]])
        self.assertEqual(ends(THIRDS), [[0, 1]])
        self.assertEqual(ends(RING), [[0, 1, 2, 3, 4, 5, 6, 7]])
        self.assertEqual(ends(WIDE), [[0, 1, 2, 3, 4, 5, 6, 7]])
        self.assertEqual(ends((((1, ONE),), ((1, ONE),))), [[1]])
        self.assertEqual(ends(ONE_END), [[0, 5]])

    def test_several_ends(self):
        self.assertEqual(ends(THREE_ENDS), [[0], [1, 2, 3], [4, 5]])
        self.assertEqual(ends(gamble(Fraction(1, 2))), [[0], [7]])
        self.assertEqual(ends(tuple(((room, ONE),) for room in range(8))), [[room] for room in range(8)])

    def test_rising_and_in_order_of_their_first_rooms(self):
        crossed = (((7, ONE),), ((3, ONE),), ((5, HALF), (6, HALF)), ((1, ONE),), ((4, ONE),), ((6, ONE),), ((2, ONE),),
                   ((0, ONE),))
        self.assertEqual(ends(crossed), [[0, 7], [1, 3], [2, 5, 6], [4]])

    def test_from_each_room_some_end_is_come_to(self):
        for walk in many_walks(23, 12):
            told = ends(walk)
            self.assertEqual(chances(walk, sorted(sum(told, []))), [ONE] * len(walk))
            each = [chances(walk, rooms) for rooms in told]
            for room in range(len(walk)):
                self.assertEqual(sum(number(likely[room]) for likely in each), 1)

    def test_new_lists_each_time_and_nothing_changed(self):
        for walk in (STAY, RING, THREE_ENDS):
            kept = copy.deepcopy(walk)
            first = ends(walk)
            second = ends(walk)
            expected = copy.deepcopy(second)
            self.assertEqual(first, second)
            self.assertIsNot(first, second)
            for rooms, others in zip(first, second):
                self.assertIsNot(rooms, others)
            first[0].append("more")
            first.append("more")
            self.assertEqual(second, expected)
            self.assertEqual(ends(copy.deepcopy(walk)), expected)
            self.assertEqual(walk, kept)


class LongRunTest(unittest.TestCase):
    def check(self, walk, start):
        told = long_run(walk, start)
        self.assertIsInstance(told, list)
        self.assertEqual(len(told), len(walk))
        self.assertTrue(all(is_told_fraction(part) for part in told), told)
        values = [number(part) for part in told]
        self.assertEqual(sum(values), 1)
        self.assertEqual(moved(walk, values), values)
        in_ends = []
        for rooms in ends_by_trying(walk):
            in_ends += rooms
            self.assertEqual(sum(values[room] for room in rooms), number(chances(walk, rooms)[start]))
        for room in range(len(walk)):
            self.assertGreaterEqual(values[room], 0)
            if room not in in_ends:
                self.assertEqual(told[room], NOUGHT)

    def test_what_the_document_says_of_them(self):
        # There is but one list that is all of this.
        for walk in many_walks(24, 15):
            for start in range(len(walk)):
                with self.subTest(walk=walk, start=start):
                    self.check(walk, start)

    def test_near_to_what_many_steps_tell(self):
        for walk in (STAY, SWAP, THIRDS, RING, WIDE, ONE_END, THREE_ENDS, gamble(Fraction(2, 5)), ring(3)):
            parts = [[float(share(walk, room, target)) for target in range(len(walk))] for room in range(len(walk))]
            for start in range(len(walk)):
                now = [float(room == start) for room in range(len(walk))]
                sums = [0.0] * len(walk)
                for step in range(4000):
                    sums = [whole + part for whole, part in zip(sums, now)]
                    now = [sum(now[room] * parts[room][target] for room in range(len(walk)) if now[room])
                           for target in range(len(walk))]
                for told, whole in zip(long_run(walk, start), sums):
                    self.assertLess(abs(float(number(told)) - whole / 4000), 0.01)

    def test_one_end(self):
        self.assertEqual(long_run(STAY, 0), [ONE])
        for start in (0, 1):
            self.assertEqual(long_run(THIRDS, start), [(3, 5), (2, 5)])
            self.assertEqual(long_run(SWAP, start), [HALF, HALF])
            self.assertEqual(long_run((((1, ONE),), ((1, ONE),)), start), [NOUGHT, ONE])
        for start in range(6):
            self.assertEqual(long_run(ONE_END, start), [HALF, NOUGHT, NOUGHT, NOUGHT, NOUGHT, HALF])

    def test_an_end_with_a_beat_above_one(self):
        for count in range(2, 9):
            for start in range(count):
                self.assertEqual(long_run(ring(count), start), [(1, count)] * count)
        lopsided = (((1, (1, 4)), (2, (3, 4))), ((0, ONE),), ((0, ONE),))
        for start in range(3):
            self.assertEqual(long_run(lopsided, start), [HALF, (1, 8), (3, 8)])

    def test_several_ends(self):
        self.assertEqual(long_run(THREE_ENDS, 0), [ONE] + [NOUGHT] * 7)
        for start in (1, 2, 3):
            self.assertEqual(long_run(THREE_ENDS, start), [NOUGHT] + [(1, 3)] * 3 + [NOUGHT] * 4)
        for start in (4, 5):
            self.assertEqual(long_run(THREE_ENDS, start), [NOUGHT] * 4 + [(2, 3), (1, 3), NOUGHT, NOUGHT])
        self.assertEqual(long_run(THREE_ENDS, 7),
                         [(1, 5), (1, 15), (1, 15), (1, 15), (2, 5), (1, 5), NOUGHT, NOUGHT])
        self.assertEqual(long_run(THREE_ENDS, 6),
                         [(3, 5), (1, 30), (1, 30), (1, 30), (1, 5), (1, 10), NOUGHT, NOUGHT])

    def test_eight_rooms(self):
        fair = gamble(Fraction(1, 2))
        for start in range(8):
            ahead = Fraction(start, 7)
            told = [number(part) for part in long_run(fair, start)]
            self.assertEqual(told, [1 - ahead] + [0] * 6 + [ahead])
            self.assertEqual(long_run(WIDE, start), [(1, 8)] * 8)

    def test_great_numbers(self):
        large = 10 ** 40
        walk = (((0, (large - 1, large)), (1, (1, large))), ((0, HALF), (1, HALF)))
        for start in (0, 1):
            self.assertEqual(long_run(walk, start), [(large // 2, large // 2 + 1), (1, large // 2 + 1)])

    def test_a_new_list_each_time_and_nothing_changed(self):
        for walk in (STAY, RING, THREE_ENDS):
            kept = copy.deepcopy(walk)
            first = long_run(walk, 0)
            second = long_run(walk, 0)
            expected = list(second)
            self.assertEqual(first, second)
            self.assertIsNot(first, second)
            first[0] = "other"
            first.append("more")
            self.assertEqual(second, expected)
            self.assertEqual(long_run(copy.deepcopy(walk), 0), expected)
            self.assertEqual(walk, kept)


class BeatTest(unittest.TestCase):
    def test_like_trying_all_lengths(self):
        for walk in many_walks(25, 60):
            told_ends = ends_by_trying(walk)
            for start in range(len(walk)):
                with self.subTest(walk=walk, start=start):
                    told = beat(walk, start)
                    if any(start in rooms for rooms in told_ends):
                        self.assertIs(type(told), int)
                        self.assertEqual(told, beat_by_trying(walk, start))
                    else:
                        self.assertIsNone(told)

    def test_like_trying_all_lengths_in_walks_of_some_beat(self):
        # The rooms stand in turns, and each goes to some of the next turn alone.
        source = random.Random(26)
        for trial in range(150):
            count = source.randint(2, 4)
            turns = [source.randrange(count) for room in range(8)]
            turns[:count] = range(count)
            walk = []
            for room in range(8):
                behind = [other for other in range(8) if turns[other] == (turns[room] + 1) % count]
                rooms = sorted(source.sample(behind, source.randint(1, len(behind))))
                walk.append(tuple((other, (1, len(rooms))) for other in rooms))
            walk = tuple(walk)
            for rooms in ends_by_trying(walk):
                for start in rooms:
                    self.assertEqual(beat(walk, start), beat_by_trying(walk, start), walk)
                    self.assertEqual(beat(walk, start) % count, 0)

    def test_none_for_a_room_in_no_end(self):
        self.assertEqual([beat(ONE_END, start) for start in range(6)], [2, None, None, None, None, 2])
        self.assertEqual([beat(THREE_ENDS, start) for start in range(8)], [1, 3, 3, 3, 1, 1, None, None])
        self.assertEqual([beat(gamble(Fraction(1, 2)), start) for start in range(8)], [1] + [None] * 6 + [1])

    def test_one_two_and_more(self):
        self.assertEqual(beat(STAY, 0), 1)
        self.assertEqual([beat(THIRDS, start) for start in (0, 1)], [1, 1])
        self.assertEqual([beat(SWAP, start) for start in (0, 1)], [2, 2])
        self.assertEqual([beat(WIDE, start) for start in range(8)], [1] * 8)
        for count in range(1, 9):
            self.assertEqual([beat(ring(count), start) for start in range(count)], [count] * count)

    def test_rounds_of_several_lengths(self):
        # Round the ring in 8 steps, or from 0 by a short cut in fewer.
        for short, told in ((2, 2), (3, 1), (4, 4), (5, 1), (6, 2), (7, 1)):
            cut = ring(8)[1:]
            walk = (tuple(sorted(((1, HALF), (9 - short, HALF)))),) + cut
            self.assertEqual([beat(walk, start) for start in range(8)], [told] * 8)
        for joined, told in ((5, 2), (4, 1), (3, 6)):
            # Round by 1 to 5 in 6 steps, or by 6 and 7 and then the joined room.
            walk = (((1, HALF), (6, HALF)), ((2, ONE),), ((3, ONE),), ((4, ONE),), ((5, ONE),), ((0, ONE),),
                    ((7, ONE),), ((joined, ONE),))
            self.assertEqual([beat(walk, start) for start in range(8)], [told] * 8)

    def test_equal_walks_have_equal_beats_and_nothing_is_changed(self):
        kept = copy.deepcopy(THREE_ENDS)
        for start in range(8):
            self.assertEqual(beat(THREE_ENDS, start), beat(copy.deepcopy(THREE_ENDS), start))
        self.assertEqual(THREE_ENDS, kept)


class RefusalsTest(unittest.TestCase):
    def test_start_that_is_no_room(self):
        for asked in (long_run, beat):
            for walk in (STAY, THIRDS, THREE_ENDS, ONE_END):
                for turn, start in enumerate(wrong_starts(len(walk))):
                    with self.subTest(asked=asked.__name__, rooms=len(walk), turn=turn):
                        with self.assertRaises(NoRooms):
                            asked(walk, start)

    def test_no_walk(self):
        for turn, walk in enumerate(WRONG_WALKS):
            with self.subTest(turn=turn):
                with self.assertRaises(NoWalk):
                    ends(walk)
                for asked in (long_run, beat):
                    with self.assertRaises(NoWalk):
                        asked(walk, 0)

    def test_no_walk_goes_ahead_of_no_room(self):
        for asked in (long_run, beat):
            for turn, walk in enumerate(WRONG_WALKS):
                for start in (-1, 8, True, None, "0", [], Odd()):
                    with self.subTest(asked=asked.__name__, turn=turn):
                        with self.assertRaises(NoWalk):
                            asked(walk, start)

    def test_taken_as_any_refusal(self):
        for kind in (ChanceError, ValueError):
            with self.assertRaises(kind):
                ends(None)
            for asked in (long_run, beat):
                with self.assertRaises(kind):
                    asked(STAY, 1)


if __name__ == "__main__":
    unittest.main()
