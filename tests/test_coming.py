import copy
import random
import unittest
from fractions import Fraction

from lotwander.coming import chances, waits
from lotwander.errors import ChanceError, NoRooms, NoWalk
from lotwander.walks import after
from tests.samples import (HALF, ONE, RING, STAY, SWAP, THIRDS, WIDE, WRONG_WALKS, Odd, gamble, is_told_fraction,
                           many_walks, number, pair, reach, share, subsets, wrong_rooms)

NOUGHT = (0, 1)
# The first room leads to the second, which is never left, and to the third and fourth, which never leave one another.
PARTED = (((0, HALF), (1, (1, 6)), (2, (1, 3))), ((1, ONE),), ((3, ONE),), ((2, (1, 4)), (3, (3, 4))))


def goals_to_try(walk, source):
    some = subsets(len(walk))
    return [some[0], some[-1]] + source.sample(some, min(len(some), 12))


def average(walk, room, values):
    return sum(share(walk, room, target) * values[target] for target in range(len(walk)) if share(walk, room, target))


class ChancesTest(unittest.TestCase):
    def check(self, walk, goals):
        told = chances(walk, goals)
        self.assertIsInstance(told, list)
        self.assertEqual(len(told), len(walk))
        self.assertTrue(all(is_told_fraction(chance) for chance in told), told)
        can = reach(walk)
        values = [number(chance) for chance in told]
        for room in range(len(walk)):
            if room in goals:
                self.assertEqual(told[room], ONE)
            elif not any(can[room][goal] for goal in goals):
                self.assertEqual(told[room], NOUGHT)
            else:
                self.assertTrue(0 < values[room] <= 1)
                self.assertEqual(values[room], average(walk, room, values))

    def test_what_the_document_says_of_them(self):
        # There is but one list that is all of this.
        source = random.Random(11)
        for walk in many_walks(12, 25):
            for goals in goals_to_try(walk, source):
                with self.subTest(walk=walk, goals=goals):
                    self.check(walk, goals)

    def test_two_rooms(self):
        self.assertEqual(chances(THIRDS, [0]), [ONE, ONE])
        self.assertEqual(chances(THIRDS, [1]), [ONE, ONE])
        self.assertEqual(chances(SWAP, [1]), [ONE, ONE])
        leaving = (((0, HALF), (1, HALF)), ((1, ONE),))
        self.assertEqual(chances(leaving, [1]), [ONE, ONE])
        self.assertEqual(chances(leaving, [0]), [ONE, NOUGHT])

    def test_one_room(self):
        self.assertEqual(chances(STAY, []), [NOUGHT])
        self.assertEqual(chances(STAY, [0]), [ONE])

    def test_no_goals_and_all_rooms_goals(self):
        for walk in (STAY, SWAP, THIRDS, RING, WIDE, PARTED, gamble(Fraction(1, 2))):
            self.assertEqual(chances(walk, []), [NOUGHT] * len(walk))
            self.assertEqual(chances(walk, list(range(len(walk)))), [ONE] * len(walk))

    def test_rooms_that_cannot_leave_one_another(self):
        self.assertEqual(chances(PARTED, [1]), [(1, 3), ONE, NOUGHT, NOUGHT])
        self.assertEqual(chances(PARTED, [2]), [(2, 3), NOUGHT, ONE, ONE])
        self.assertEqual(chances(PARTED, [3]), [(2, 3), NOUGHT, ONE, ONE])
        self.assertEqual(chances(PARTED, [1, 3]), [ONE, ONE, ONE, ONE])
        self.assertEqual(chances(PARTED, [0]), [ONE, NOUGHT, NOUGHT, NOUGHT])
        self.assertEqual(chances(PARTED, [0, 2]), [ONE, NOUGHT, ONE, ONE])

    def test_a_goal_that_is_left_again_is_come_to(self):
        passing = (((1, HALF), (2, HALF)), ((2, ONE),), ((2, ONE),))
        self.assertEqual(chances(passing, [1]), [HALF, ONE, NOUGHT])
        self.assertEqual(chances(passing, [0]), [ONE, NOUGHT, NOUGHT])

    def test_eight_rooms_in_a_row(self):
        fair = gamble(Fraction(1, 2))
        self.assertEqual(chances(fair, [7]), [pair(Fraction(room, 7)) for room in range(8)])
        self.assertEqual(chances(fair, [0]), [pair(Fraction(7 - room, 7)) for room in range(8)])
        self.assertEqual(chances(fair, [0, 7]), [ONE] * 8)
        up = Fraction(10 ** 20 + 1, 3 * 10 ** 20)
        odds = (1 - up) / up
        expected = [(1 - odds ** room) / (1 - odds ** 7) for room in range(8)]
        self.assertEqual(chances(gamble(up), [7]), [pair(chance) for chance in expected])

    def test_eight_rooms(self):
        for goal in range(8):
            self.assertEqual(chances(RING, [goal]), [ONE] * 8)
            self.assertEqual(chances(WIDE, [goal]), [ONE] * 8)

    def test_never_less_than_behind_steps_and_near_behind_many(self):
        held = tuple(((room, ONE),) if room in (1, 2) else spread for room, spread in enumerate(PARTED))
        told = [number(chance) for chance in chances(PARTED, [1, 2])]
        for start in range(4):
            there = after(held, start, 60)
            seen = number(there[1]) + number(there[2])
            self.assertTrue(0 <= told[start] - seen < Fraction(1, 10 ** 6))


class WaitsTest(unittest.TestCase):
    def check(self, walk, goals):
        told = waits(walk, goals)
        likely = chances(walk, goals)
        self.assertIsInstance(told, list)
        self.assertEqual(len(told), len(walk))
        values = [None if wait is None else number(wait) for wait in told]
        for room in range(len(walk)):
            if likely[room] != ONE:
                self.assertIsNone(told[room])
                continue
            self.assertTrue(is_told_fraction(told[room]))
            if room in goals:
                self.assertEqual(told[room], NOUGHT)
            else:
                self.assertGreaterEqual(values[room], 1)
                self.assertEqual(values[room], 1 + average(walk, room, values))

    def test_what_the_document_says_of_them(self):
        # There is but one list that is all of this.
        source = random.Random(13)
        for walk in many_walks(14, 25):
            for goals in goals_to_try(walk, source):
                with self.subTest(walk=walk, goals=goals):
                    self.check(walk, goals)

    def test_two_rooms(self):
        self.assertEqual(waits(THIRDS, [0]), [NOUGHT, ONE])
        self.assertEqual(waits(THIRDS, [1]), [(3, 2), NOUGHT])
        self.assertEqual(waits(SWAP, [1]), [ONE, NOUGHT])
        leaving = (((0, HALF), (1, HALF)), ((1, ONE),))
        self.assertEqual(waits(leaving, [1]), [(2, 1), NOUGHT])
        self.assertEqual(waits(leaving, [0]), [NOUGHT, None])

    def test_one_room(self):
        self.assertEqual(waits(STAY, []), [None])
        self.assertEqual(waits(STAY, [0]), [NOUGHT])

    def test_no_goals_and_all_rooms_goals(self):
        for walk in (STAY, SWAP, THIRDS, RING, WIDE, PARTED, gamble(Fraction(1, 2))):
            self.assertEqual(waits(walk, []), [None] * len(walk))
            self.assertEqual(waits(walk, list(range(len(walk)))), [NOUGHT] * len(walk))

    def test_none_just_where_the_chance_is_less_than_one(self):
        self.assertEqual(waits(PARTED, [1]), [None, NOUGHT, None, None])
        self.assertEqual(waits(PARTED, [2]), [None, None, NOUGHT, (4, 1)])
        self.assertEqual(waits(PARTED, [3]), [None, None, ONE, NOUGHT])
        self.assertEqual(waits(PARTED, [1, 2]), [(2, 1), NOUGHT, NOUGHT, (4, 1)])
        self.assertEqual(waits(PARTED, [1, 3]), [(8, 3), NOUGHT, ONE, NOUGHT])
        large = 10 ** 30
        nearly = (((0, ONE),), ((0, (large - 1, large)), (2, (1, large))), ((2, ONE),))
        self.assertEqual(waits(nearly, [0]), [NOUGHT, None, None])

    def test_long_waits(self):
        large = 10 ** 30
        slow = (((0, (large - 1, large)), (1, (1, large))), ((1, ONE),))
        self.assertEqual(waits(slow, [1]), [(large, 1), NOUGHT])

    def test_eight_rooms(self):
        fair = gamble(Fraction(1, 2))
        self.assertEqual(waits(fair, [0, 7]), [(room * (7 - room), 1) for room in range(8)])
        self.assertEqual(waits(fair, [7]), [None] * 7 + [NOUGHT])
        self.assertEqual(waits(RING, [5]), [((5 - room) % 8, 1) for room in range(8)])
        self.assertEqual(waits(WIDE, [2]), [NOUGHT if room == 2 else (8, 1) for room in range(8)])
        self.assertEqual(waits(WIDE, [0, 2, 7]), [NOUGHT if room in (0, 2, 7) else (8, 3) for room in range(8)])


class BothTest(unittest.TestCase):
    def test_goals_that_are_not_some_rooms(self):
        for asked in (chances, waits):
            for walk in (STAY, SWAP, PARTED, RING):
                for turn, goals in enumerate(wrong_rooms(len(walk))):
                    with self.subTest(asked=asked.__name__, rooms=len(walk), turn=turn):
                        with self.assertRaises(NoRooms):
                            asked(walk, goals)

    def test_each_room_may_be_a_goal_and_the_next_number_none(self):
        for asked in (chances, waits):
            for count in range(1, 9):
                walk = tuple(((room, ONE),) for room in range(count))
                for room in range(count):
                    self.assertEqual(asked(walk, [room])[room], ONE if asked is chances else NOUGHT)
                with self.assertRaises(NoRooms):
                    asked(walk, [count])

    def test_no_walk_goes_ahead(self):
        for asked in (chances, waits):
            for turn, walk in enumerate(WRONG_WALKS):
                for goals in ([], [0], (0,), None, [-1], [True], Odd()):
                    with self.subTest(asked=asked.__name__, turn=turn):
                        with self.assertRaises(NoWalk):
                            asked(walk, goals)

    def test_taken_as_any_refusal(self):
        for asked in (chances, waits):
            for kind in (ChanceError, ValueError):
                with self.assertRaises(kind):
                    asked(PARTED, (0,))

    def test_a_new_list_each_time_and_nothing_changed(self):
        for asked in (chances, waits):
            for walk in (STAY, PARTED, RING):
                for goals in ([], [0], list(range(len(walk)))):
                    kept = copy.deepcopy((walk, goals))
                    first = asked(walk, goals)
                    second = asked(walk, goals)
                    expected = list(second)
                    self.assertEqual(first, second)
                    self.assertIsNot(first, second)
                    self.assertIsNot(first, goals)
                    first.append("more")
                    first[0] = "other"
                    self.assertEqual(second, expected)
                    self.assertEqual(asked(*copy.deepcopy(kept)), expected)
                    self.assertEqual((walk, goals), kept)

    def test_goals_changed_behind_a_call_are_seen_by_the_next(self):
        goals = [1]
        self.assertEqual(chances(PARTED, goals), [(1, 3), ONE, NOUGHT, NOUGHT])
        goals[0] = 2
        self.assertEqual(chances(PARTED, goals), [(2, 3), NOUGHT, ONE, ONE])
        self.assertEqual(waits(PARTED, goals), [None, None, NOUGHT, (4, 1)])


if __name__ == "__main__":
    unittest.main()
