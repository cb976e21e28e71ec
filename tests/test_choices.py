import copy
import random
import unittest
from fractions import Fraction

from lotwander.choices import checked_choice, least, most, picked
from lotwander.coming import chances
from lotwander.errors import ChanceError, NoChoice, NoPicks, NoRooms
from lotwander.walks import checked
from tests.samples import (HALF, ONE, SURE, WRONG_CHOICES, Odd, all_picks, is_told_fraction, many_choices, number,
                           ring_choice, spread_of, subsets, walk_by, wrong_picks, wrong_rooms)

NOUGHT = (0, 1)
FLIP = ((2, HALF), (3, HALF))
# From 0 to 1 and back it looks as good as the flip for the goal 2, but does not come there; 3 is never left.
ROUND = ((((1, ONE),), FLIP), (((0, ONE),), FLIP), (((2, ONE),),), (((3, ONE),),))
TURNED = tuple(tuple(reversed(ways)) for ways in ROUND)
FOUR_WAYS = (SURE, ((1, ONE),), ((0, HALF), (1, HALF)), ((0, (1, 3)), (1, (2, 3))))
GREAT = 10 ** 30


def average(way, values):
    return sum(number(share) * values[room] for room, share in way)


def within_steps(choice, goals, steps, best):
    # The best chance to come there in so many steps, where choosing may know the step and all that was ahead.
    values = [Fraction(int(room in goals)) for room in range(len(choice))]
    for step in range(steps):
        values = [Fraction(1) if room in goals else best(average(way, values) for way in ways)
                  for room, ways in enumerate(choice)]
    return values


def goals_to_try(choice, source, count):
    some = subsets(len(choice))
    return [some[0], some[-1]] + source.sample(some, min(len(some), count))


class CheckedChoiceTest(unittest.TestCase):
    def test_tells_a_choice(self):
        for choice in [ROUND, TURNED, (FOUR_WAYS, FOUR_WAYS), *many_choices(51, 5)]:
            kept = copy.deepcopy(choice)
            self.assertIs(checked_choice(choice), choice)
            self.assertEqual(choice, kept)

    def test_of_each_number_of_rooms_and_ways(self):
        for count in range(1, 7):
            for ways in range(1, 5):
                choice = ring_choice(count, ways)
                self.assertEqual(checked_choice(choice), choice)
        for count in (7, 8, 100):
            for ways in (1, 4):
                with self.assertRaises(NoChoice):
                    checked_choice(ring_choice(count, ways))
        for count in (1, 6):
            for ways in (0, 5, 100):
                with self.assertRaises(NoChoice):
                    checked_choice(ring_choice(count, ways))

    def test_a_way_leads_to_rooms_of_the_choice(self):
        for count in range(1, 7):
            choice = ring_choice(count, 1)
            self.assertEqual(checked_choice(choice[:-1] + ((((count - 1, ONE),),),))[-1], (((count - 1, ONE),),))
            for room in (count, count + 1, -1):
                with self.assertRaises(NoChoice):
                    checked_choice(choice[:-1] + ((((room, ONE),),),))

    def test_what_is_none(self):
        for turn, choice in enumerate(WRONG_CHOICES):
            with self.subTest(turn=turn):
                with self.assertRaises(NoChoice):
                    checked_choice(choice)

    def test_taken_as_any_refusal(self):
        for kind in (ChanceError, ValueError):
            with self.assertRaises(kind):
                checked_choice(None)


class PickedTest(unittest.TestCase):
    def test_the_walk_of_the_ways_that_are_picked(self):
        self.assertEqual(picked(ROUND, [0, 1, 0, 0]), (((1, ONE),), FLIP, ((2, ONE),), ((3, ONE),)))
        self.assertEqual(picked(ROUND, [1, 0, 0, 0]), (FLIP, ((0, ONE),), ((2, ONE),), ((3, ONE),)))
        for first in range(4):
            for second in range(4):
                walk = picked((FOUR_WAYS, FOUR_WAYS), [first, second])
                self.assertEqual(walk, (FOUR_WAYS[first], FOUR_WAYS[second]))

    def test_each_picks_of_a_choice(self):
        for choice in many_choices(52, 2):
            for picks in all_picks(choice):
                kept = copy.deepcopy((choice, picks))
                walk = picked(choice, picks)
                self.assertIs(checked(walk), walk)
                self.assertEqual(walk, walk_by(choice, picks))
                self.assertEqual((choice, picks), kept)

    def test_one_and_six_rooms_of_one_and_four_ways(self):
        for count in (1, 6):
            for ways in (1, 4):
                choice = ring_choice(count, ways)
                for way in range(ways):
                    walk = tuple((((room + way) % count, ONE),) for room in range(count))
                    self.assertEqual(picked(choice, [way] * count), walk)

    def test_picks_that_are_none(self):
        rings = (ring_choice(1, 1), ring_choice(1, 4), ring_choice(6, 1), ring_choice(6, 4))
        for choice in (ROUND, (FOUR_WAYS, (SURE,)), *rings):
            for turn, picks in enumerate(wrong_picks(choice)):
                with self.subTest(rooms=len(choice), turn=turn):
                    with self.assertRaises(NoPicks):
                        picked(choice, picks)

    def test_each_room_has_ways_of_its_own_number(self):
        choice = (FOUR_WAYS, (SURE,))
        self.assertEqual(picked(choice, [3, 0]), (FOUR_WAYS[3], SURE))
        for picks in ([0, 1], [3, 3], [4, 0], [0, 3]):
            with self.assertRaises(NoPicks):
                picked(choice, picks)

    def test_no_choice_goes_ahead(self):
        for turn, choice in enumerate(WRONG_CHOICES):
            for picks in ([0], [0, 0], [], (0,), None, [-1], [True], Odd()):
                with self.subTest(turn=turn):
                    with self.assertRaises(NoChoice):
                        picked(choice, picks)

    def test_taken_as_any_refusal(self):
        for kind in (ChanceError, ValueError):
            with self.assertRaises(kind):
                picked(ROUND, (0, 0, 0, 0))


class MostAndLeastTest(unittest.TestCase):
    def told(self, asked, choice, goals):
        # Tells the chances as numbers, and the picks, after seeing that they are of the kind told.
        answer = asked(choice, goals)
        self.assertIsInstance(answer, tuple)
        self.assertEqual(len(answer), 2)
        told, picks = answer
        self.assertIsInstance(told, list)
        self.assertEqual(len(told), len(choice))
        self.assertTrue(all(is_told_fraction(chance) for chance in told), told)
        self.assertIsInstance(picks, list)
        self.assertTrue(all(type(pick) is int for pick in picks))
        self.assertEqual(chances(picked(choice, picks), goals), told)
        return [number(chance) for chance in told], picks

    def check_most(self, choice, goals):
        values = self.told(most, choice, goals)[0]
        for room, ways in enumerate(choice):
            for way in ways:
                self.assertLessEqual(average(way, values), values[room])
        return values

    def check_least(self, choice, goals):
        values, picks = self.told(least, choice, goals)
        for room, ways in enumerate(choice):
            # A goal is come to in the beginning, so its ways may well have less.
            if room not in goals:
                for way in ways:
                    self.assertGreaterEqual(average(way, values), values[room])
            if values[room] == 0:
                self.assertEqual([values[other] for other, share in ways[picks[room]] if values[other]], [])
        return values

    def test_what_the_document_says_of_them(self):
        source = random.Random(53)
        for choice in many_choices(54, 30):
            for goals in goals_to_try(choice, source, 6):
                with self.subTest(choice=choice, goals=goals):
                    self.check_most(choice, goals)
                    self.check_least(choice, goals)

    def test_of_all_picks_none_do_more_or_less_anywhere(self):
        source = random.Random(55)
        for choice in many_choices(56, 25):
            for goals in source.sample(subsets(len(choice)), 2):
                with self.subTest(choice=choice, goals=goals):
                    tried = [chances(walk_by(choice, picks), goals) for picks in all_picks(choice)]
                    columns = [[number(chance) for chance in column] for column in zip(*tried)]
                    self.assertEqual(self.check_most(choice, goals), [max(column) for column in columns])
                    self.assertEqual(self.check_least(choice, goals), [min(column) for column in columns])

    def test_of_all_picks_of_six_rooms_and_four_ways(self):
        source = random.Random(57)
        ways = [spread_of({room: source.randint(1, 3) for room in source.sample(range(6), 3)}) for way in range(16)]
        choice = (*[tuple(ways[room::4]) for room in range(4)], (((4, ONE),),) * 4, (((5, ONE),),) * 4)
        tried = [chances(walk_by(choice, picks + [0, 0]), [5]) for picks in all_picks(choice[:4])]
        columns = [[number(chance) for chance in column] for column in zip(*tried)]
        self.assertGreater(len(set(columns[0])), 10)
        self.assertEqual(self.check_most(choice, [5]), [max(column) for column in columns])
        self.assertEqual(self.check_least(choice, [5]), [min(column) for column in columns])

    def test_no_choosing_whatever_it_knows_does_more_or_less(self):
        # By steps the best comes from below to the most, and so to the least.
        source = random.Random(58)
        for choice in many_choices(59, 8):
            goals = source.choice(subsets(len(choice)))
            with self.subTest(choice=choice, goals=goals):
                for values, best in ((self.check_most(choice, goals), max), (self.check_least(choice, goals), min)):
                    near = within_steps(choice, goals, 200, best)
                    for told, found in zip(values, near):
                        self.assertTrue(0 <= told - found < Fraction(1, 1000), (told, found))

    def test_rounds_among_rooms_with_the_same_chance(self):
        for choice in (ROUND, TURNED):
            self.assertEqual(most(choice, [2])[0], [HALF, HALF, ONE, NOUGHT])
            self.assertEqual(least(choice, [2])[0], [NOUGHT, NOUGHT, ONE, NOUGHT])
            self.assertEqual(most(choice, [2, 3])[0], [ONE] * 4)
            self.assertEqual(least(choice, [2, 3])[0], [NOUGHT, NOUGHT, ONE, ONE])
            for goals in subsets(4):
                self.check_most(choice, goals)
                self.check_least(choice, goals)

    def test_staying_looks_as_good_as_going(self):
        for ways in ((SURE, ((1, ONE),)), (((1, ONE),), SURE)):
            choice = (ways, (((1, ONE),),))
            self.assertEqual(most(choice, [1]), ([ONE, ONE], [ways.index(((1, ONE),)), 0]))
            self.assertEqual(least(choice, [1]), ([NOUGHT, ONE], [ways.index(SURE), 0]))

    def test_the_way_out_of_a_long_round(self):
        # Each room leads on round, or tries: only from the last is the try good for the goal 4, and 5 is never left.
        poor = ((4, (1, 4)), (5, (3, 4)))
        good = ((4, (3, 4)), (5, (1, 4)))
        for first in (0, 1):
            rooms = []
            for room in range(4):
                ways = ((((room + 1) % 4, ONE),), good if room == 3 else poor)
                rooms.append(ways if first == 0 else tuple(reversed(ways)))
            choice = (*rooms, (((4, ONE),),), (((5, ONE),),))
            on, tried = (0, 1) if first == 0 else (1, 0)
            self.assertEqual(most(choice, [4]), ([(3, 4)] * 4 + [ONE, NOUGHT], [on, on, on, tried, 0, 0]))
            self.assertEqual(least(choice, [4])[0], [NOUGHT] * 4 + [ONE, NOUGHT])
            # Nowhere to go round: the second leads out too, by whatever way.
            hard = choice[:1] + ((poor, poor),) + choice[2:]
            self.assertEqual(least(hard, [4])[0], [(1, 4)] * 4 + [ONE, NOUGHT])
            self.check_least(hard, [4])
            self.check_most(hard, [4])

    def test_nought_only_where_goals_can_be_kept_away_from_for_good(self):
        # 0 can stay away by 1 and 2; from 3 every way may end in the goal 4.
        choice = ((((4, ONE),), ((1, HALF), (2, HALF))), (((4, ONE),), ((0, ONE),)), (((2, ONE),), ((4, ONE),)),
                  (((0, HALF), (4, HALF)), ((3, HALF), (4, HALF)), ((0, (1, 3)), (3, (2, 3)))), (((4, ONE),),))
        told, picks = least(choice, [4])
        self.assertEqual(told, [NOUGHT, NOUGHT, NOUGHT, NOUGHT, ONE])
        self.assertEqual(picks, [1, 1, 0, 2, 0])
        fewer = choice[:3] + (choice[3][:2],) + choice[4:]
        self.assertEqual(least(fewer, [4]), ([NOUGHT, NOUGHT, NOUGHT, HALF, ONE], [1, 1, 0, 0, 0]))
        self.assertEqual(most(choice, [4])[0], [ONE] * 5)

    def test_a_goal_that_can_be_left_is_come_to_all_the_same(self):
        choice = ((((1, ONE),), SURE), (((1, ONE),),))
        self.assertEqual(least(choice, [0])[0], [ONE, NOUGHT])
        self.assertEqual(most(choice, [0])[0], [ONE, NOUGHT])

    def test_no_goals_and_all_rooms_goals(self):
        for choice in [ROUND, TURNED, ring_choice(1, 1), ring_choice(6, 4), *many_choices(60, 2)]:
            for asked in (most, least):
                self.assertEqual(self.told(asked, choice, [])[0], [0] * len(choice))
                self.assertEqual(self.told(asked, choice, list(range(len(choice))))[0], [1] * len(choice))

    def test_one_room_and_one_way(self):
        for asked in (most, least):
            self.assertEqual(asked(ring_choice(1, 1), []), ([NOUGHT], [0]))
            self.assertEqual(asked(ring_choice(1, 1), [0]), ([ONE], [0]))
            choice = ((((0, (1, 4)), (1, HALF), (2, (1, 4))),), (((1, ONE),),), (((2, ONE),),))
            self.assertEqual(asked(choice, [1]), ([(2, 3), ONE, NOUGHT], [0, 0, 0]))

    def test_ways_that_hardly_differ(self):
        more = ((1, (GREAT, 2 * GREAT + 1)), (2, (GREAT + 1, 2 * GREAT + 1)))
        fewer = ((1, (GREAT - 1, 2 * GREAT - 1)), (2, (GREAT, 2 * GREAT - 1)))
        choice = ((fewer, more), (((1, ONE),),), (((2, ONE),),))
        self.assertEqual(most(choice, [1]), ([(GREAT, 2 * GREAT + 1), ONE, NOUGHT], [1, 0, 0]))
        self.assertEqual(least(choice, [1]), ([(GREAT - 1, 2 * GREAT - 1), ONE, NOUGHT], [0, 0, 0]))

    def test_bold_and_timid_play(self):
        # With 0 to 5 pieces, a share of 1 in 3 to win each, stake one or as much as may help.
        rooms = [(SURE,)]
        for held in range(1, 5):
            stakes = range(1, min(held, 5 - held) + 1)
            rooms.append(tuple(((held - stake, (2, 3)), (held + stake, (1, 3))) for stake in stakes))
        choice = (*rooms, (((5, ONE),),))
        self.assertEqual(most(choice, [5])[0], [NOUGHT, (5, 77), (15, 77), (29, 77), (45, 77), ONE])
        self.assertEqual(most(choice, [5])[1], [0, 0, 1, 1, 0, 0])
        self.assertEqual(least(choice, [5])[0], [NOUGHT, (1, 31), (3, 31), (7, 31), (15, 31), ONE])
        self.assertEqual(least(choice, [5])[1], [0, 0, 0, 0, 0, 0])

    def test_goals_that_are_not_some_rooms(self):
        for asked in (most, least):
            for choice in (ring_choice(1, 1), ring_choice(2, 4), ROUND, ring_choice(6, 4)):
                for turn, goals in enumerate(wrong_rooms(len(choice))):
                    with self.subTest(asked=asked.__name__, rooms=len(choice), turn=turn):
                        with self.assertRaises(NoRooms):
                            asked(choice, goals)

    def test_each_room_may_be_a_goal_and_the_next_number_none(self):
        for asked in (most, least):
            for count in range(1, 7):
                for room in range(count):
                    self.assertEqual(asked(ring_choice(count, 1), [room])[0][room], ONE)
                with self.assertRaises(NoRooms):
                    asked(ring_choice(count, 1), [count])

    def test_no_choice_goes_ahead(self):
        for asked in (most, least):
            for turn, choice in enumerate(WRONG_CHOICES):
                for goals in ([], [0], (0,), None, [-1], [True], Odd()):
                    with self.subTest(asked=asked.__name__, turn=turn):
                        with self.assertRaises(NoChoice):
                            asked(choice, goals)

    def test_taken_as_any_refusal(self):
        for asked in (most, least):
            for kind in (ChanceError, ValueError):
                with self.assertRaises(kind):
                    asked(ROUND, (0,))

    def test_new_lists_each_time_and_nothing_changed(self):
        for asked in (most, least):
            for choice in (ROUND, TURNED, ring_choice(1, 1), ring_choice(6, 4)):
                for goals in ([], [0], list(range(len(choice)))):
                    kept = copy.deepcopy((choice, goals))
                    first = asked(choice, goals)
                    second = asked(choice, goals)
                    expected = copy.deepcopy(second)
                    self.assertEqual(first, second)
                    for place in (0, 1):
                        self.assertIsNot(first[place], second[place])
                        self.assertIsNot(first[place], goals)
                        first[place][0] = "other"
                        first[place].append("more")
                    self.assertEqual(second, expected)
                    self.assertEqual((choice, goals), kept)
                    self.assertEqual(asked(*copy.deepcopy(kept)), expected)


if __name__ == "__main__":
    unittest.main()
