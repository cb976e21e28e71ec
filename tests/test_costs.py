import copy
import random
import unittest
from fractions import Fraction

from lotwander.choices import most, picked
from lotwander.coming import chances, waits
from lotwander.costs import least_costs
from lotwander.errors import ChanceError, NoChoice, NoCosts, NoRooms
from tests.samples import (HALF, ONE, SURE, WRONG_CHOICES, Odd, all_picks, is_told_fraction, many_choices, number, pair,
                           ring_choice, share, spread_of, subsets, walk_by, wrong_costs, wrong_rooms)

NOUGHT = (0, 1)
GREAT = 10 ** 40
LAST = ((2, ONE),)
# From 0 by 1 or at once; 1 may try again and again, or go for sure; 2 is never left.
CLIMB = ((((1, ONE),), LAST), (((1, HALF), (2, HALF)), LAST), (LAST,))


def solved_by_fractions(matrix, sides):
    rows = [row + [side] for row, side in zip(matrix, sides)]
    for place in range(len(rows)):
        chosen = next(row for row in range(place, len(rows)) if rows[row][place] != 0)
        rows[place], rows[chosen] = rows[chosen], rows[place]
        rows[place] = [value / rows[place][place] for value in rows[place]]
        for other in range(len(rows)):
            if other != place:
                factor = rows[other][place]
                rows[other] = [value - factor * above for value, above in zip(rows[other], rows[place])]
    return [row[-1] for row in rows]


def costs_by(choice, costs, picks, goals):
    # What the picks cost from each room, None where goals are not come to for sure.
    walk = walk_by(choice, picks)
    sure = chances(walk, goals)
    told = [Fraction(0) if room in goals else None for room in range(len(choice))]
    rooms = [room for room in range(len(choice)) if sure[room] == ONE and room not in goals]
    matrix = [[int(room == other) - Fraction(share(walk, room, other)) for other in rooms] for room in rooms]
    sides = [Fraction(costs[room][picks[room]]) for room in rooms]
    for room, cost in zip(rooms, solved_by_fractions(matrix, sides)):
        told[room] = cost
    return told


def some_costs(source, choice, greatest):
    return [[source.randint(1, greatest) for way in ways] for ways in choice]


def least_by_trying(choice, costs, goals):
    tried = [costs_by(choice, costs, picks, goals) for picks in all_picks(choice)]
    columns = [[cost for cost in column if cost is not None] for column in zip(*tried)]
    return [min(column) if column else None for column in columns]


class LeastCostsTest(unittest.TestCase):
    def check(self, choice, costs, goals):
        answer = least_costs(choice, costs, goals)
        self.assertIsInstance(answer, tuple)
        self.assertEqual(len(answer), 2)
        told, picks = answer
        self.assertIsInstance(told, list)
        self.assertIsInstance(picks, list)
        self.assertEqual(len(told), len(choice))
        self.assertTrue(all(cost is None or is_told_fraction(cost) for cost in told), told)
        self.assertTrue(all(type(pick) is int for pick in picks))
        by_picks = costs_by(choice, costs, picks, goals)
        sure = most(choice, goals)[0]
        for room in range(len(choice)):
            self.assertEqual(told[room] is None, sure[room] != ONE)
            if room in goals:
                self.assertEqual(told[room], NOUGHT)
            if room in goals or told[room] is None:
                self.assertEqual(picks[room], 0)
            else:
                self.assertEqual(number(told[room]), by_picks[room])
        return [None if cost is None else number(cost) for cost in told]

    def test_of_all_picks_none_costs_less(self):
        source = random.Random(61)
        for choice in many_choices(62, 20):
            for goals in source.sample(subsets(len(choice)), 2):
                costs = some_costs(source, choice, source.choice((1, 3, 50)))
                with self.subTest(choice=choice, costs=costs, goals=goals):
                    self.assertEqual(self.check(choice, costs, goals), least_by_trying(choice, costs, goals))

    def test_no_way_costs_less_by_what_is_told(self):
        source = random.Random(63)
        for choice in many_choices(64, 40):
            costs = some_costs(source, choice, 9)
            goals = source.choice(subsets(len(choice)))
            with self.subTest(choice=choice, costs=costs, goals=goals):
                told = self.check(choice, costs, goals)
                for room, ways in enumerate(choice):
                    for cost, way in zip(costs[room], ways):
                        onward = [told[other] for other, part in way]
                        if room not in goals and told[room] is not None and None not in onward:
                            there = sum(number(part) * told[other] for other, part in way)
                            self.assertGreaterEqual(cost + there, told[room])

    def test_of_all_picks_of_six_rooms_and_four_ways(self):
        source = random.Random(65)
        ways = [spread_of({room: source.randint(1, 3) for room in source.sample(range(6), 3)}) for way in range(16)]
        choice = (*[tuple(ways[room::4]) for room in range(4)], (SURE, LAST) * 2, (((5, ONE),),) * 4)
        costs = some_costs(source, choice, 20)
        # The last two ways of the room 4 are like the first two, only dearer; so these need not be tried.
        costs[4][2:] = [30, 30]
        tried = [costs_by(choice, costs, picks + [way, 0], [5]) for picks in all_picks(choice[:4]) for way in (0, 1)]
        columns = [[cost for cost in column if cost is not None] for column in zip(*tried)]
        self.assertGreater(len(set(columns[0])), 10)
        self.assertEqual(self.check(choice, costs, [5]), [min(column) for column in columns])

    def test_a_dear_way_for_sure_or_cheap_ones_again_and_again(self):
        self.assertEqual(least_costs(CLIMB, [[1, 9], [1, 9], [1]], [2]), ([(3, 1), (2, 1), NOUGHT], [0, 0, 0]))
        self.assertEqual(least_costs(CLIMB, [[9, 1], [9, 1], [1]], [2]), ([ONE, ONE, NOUGHT], [1, 1, 0]))
        self.assertEqual(least_costs(CLIMB, [[7, 9], [1, 9], [1]], [2])[0], [(9, 1), (2, 1), NOUGHT])
        self.assertEqual(least_costs(CLIMB, [[6, 9], [1, 9], [1]], [2]), ([(8, 1), (2, 1), NOUGHT], [0, 0, 0]))
        self.assertEqual(least_costs(CLIMB, [[8, 9], [1, 9], [1]], [2]), ([(9, 1), (2, 1), NOUGHT], [1, 0, 0]))

    def test_each_cost_one_is_the_wait(self):
        for choice in many_choices(66, 5):
            one_way = tuple(ways[:1] for ways in choice)
            for goals in subsets(len(choice)):
                told, picks = least_costs(one_way, [[1]] * len(choice), goals)
                self.assertEqual(told, waits(picked(one_way, picks), goals))
                self.assertEqual(picks, [0] * len(choice))

    def test_none_where_goals_are_not_come_to_for_sure(self):
        # The cheap way from 0 may end in 3, which is never left; so may each way from 1.
        flip = ((2, HALF), (3, HALF))
        choice = ((flip, ((0, (9, 10)), (2, (1, 10)))), (flip, ((0, HALF), (3, HALF))), (LAST, LAST),
                  (((3, ONE),), ((3, ONE),)))
        costs = [[1, 5], [1, 1], [1, 1], [1, 1]]
        self.assertEqual(least_costs(choice, costs, [2]), ([(50, 1), None, NOUGHT, None], [1, 0, 0, 0]))
        self.assertEqual(least_costs(choice, costs, [2, 3]), ([ONE, ONE, NOUGHT, NOUGHT], [0, 0, 0, 0]))
        self.assertEqual(least_costs(choice, costs, [3])[0][2:], [None, NOUGHT])
        # By a chance as small as may be it is not for sure.
        nearly = ((((1, (GREAT - 1, GREAT)), (2, (1, GREAT))),), (((1, ONE),),), (LAST,))
        self.assertEqual(least_costs(nearly, [[1], [1], [1]], [1])[0], [None, NOUGHT, None])

    def test_rooms_without_a_cost_pick_nought_and_are_kept_away_from(self):
        # To 1 it is cheap, but 1 leads on to 3 alone, in whichever way.
        choice = ((((1, ONE),), LAST), (((3, ONE),), ((3, ONE),)), (LAST,), (((3, ONE),), ((1, ONE),)))
        self.assertEqual(least_costs(choice, [[1, 70], [1, 1], [1], [1, 1]], [2]),
                         ([(70, 1), None, NOUGHT, None], [1, 0, 0, 0]))

    def test_a_goal_picks_nought_and_costs_nothing(self):
        choice = ((((1, ONE),), SURE), (SURE, ((1, ONE),), ((0, HALF), (1, HALF))))
        self.assertEqual(least_costs(choice, [[9, 1], [9, 1, 1]], [1]), ([(9, 1), NOUGHT], [0, 0]))
        self.assertEqual(least_costs(choice, [[9, 1], [9, 1, 1]], [0]), ([NOUGHT, (2, 1)], [0, 2]))
        self.assertEqual(least_costs(choice, [[9, 1], [9, 1, 1]], [0, 1]), ([NOUGHT, NOUGHT], [0, 0]))

    def test_a_goal_on_the_way_ends_the_cost(self):
        choice = ((((1, ONE),),), (LAST,), (((3, ONE),),), (((3, ONE),),))
        costs = [[1], [10], [100], [1000]]
        self.assertEqual(least_costs(choice, costs, [3])[0], [(111, 1), (110, 1), (100, 1), NOUGHT])
        self.assertEqual(least_costs(choice, costs, [1, 3])[0], [ONE, NOUGHT, (100, 1), NOUGHT])
        self.assertEqual(least_costs(choice, costs, [1])[0], [ONE, NOUGHT, None, None])

    def test_no_goals_and_all_rooms_goals(self):
        for choice in [CLIMB, ring_choice(1, 1), ring_choice(1, 4), ring_choice(6, 4), *many_choices(67, 2)]:
            costs = [[3] * len(ways) for ways in choice]
            noughts = [0] * len(choice)
            self.assertEqual(least_costs(choice, costs, []), ([None] * len(choice), noughts))
            every = list(range(len(choice)))
            self.assertEqual(least_costs(choice, costs, every), ([NOUGHT] * len(choice), noughts))

    def test_several_ways_alike_in_cost(self):
        # From each room to the next by any way for the same; and ways that differ, but cost as much in the end.
        choice = ((((1, ONE),),) * 4, (LAST,) * 4, (LAST,) * 4)
        told = self.check(choice, [[2] * 4, [3] * 4, [4] * 4], [2])
        self.assertEqual(told, [5, 3, 0])
        self.assertEqual(self.check(CLIMB, [[2, 4], [1, 2], [1]], [2]), [4, 2, 0])
        rounds = ((((1, ONE),), LAST), (SURE, LAST), (LAST,))
        self.assertEqual(self.check(rounds, [[1, 1], [1, 1], [1]], [2]), [1, 1, 0])
        self.assertEqual(self.check(rounds, [[1, 2], [1, 1], [1]], [2]), [2, 1, 0])

    def test_costs_that_are_great(self):
        self.assertEqual(least_costs(CLIMB, [[GREAT, 3 * GREAT], [GREAT, 3 * GREAT], [1]], [2])[0],
                         [(3 * GREAT, 1), (2 * GREAT, 1), NOUGHT])
        self.assertEqual(least_costs(CLIMB, [[GREAT, 3 * GREAT - 1], [GREAT, 2 * GREAT - 1], [1]], [2]),
                         ([(3 * GREAT - 1, 1), (2 * GREAT - 1, 1), NOUGHT], [1, 1, 0]))
        self.assertEqual(least_costs(CLIMB, [[GREAT, 3 * GREAT + 1], [GREAT, 2 * GREAT + 1], [1]], [2]),
                         ([(3 * GREAT, 1), (2 * GREAT, 1), NOUGHT], [0, 0, 0]))
        slow = ((((0, (GREAT - 1, GREAT)), (1, (1, GREAT))),), (((1, ONE),),))
        self.assertEqual(least_costs(slow, [[GREAT], [1]], [1])[0], [(GREAT * GREAT, 1), NOUGHT])

    def test_parts_of_a_cost(self):
        choice = ((((0, (1, 4)), (1, (3, 4))),), (((1, ONE),),))
        self.assertEqual(least_costs(choice, [[5], [1]], [1])[0], [pair(Fraction(20, 3)), NOUGHT])

    def test_new_lists_each_time_and_nothing_changed(self):
        for choice in (CLIMB, ring_choice(1, 1), ring_choice(6, 4)):
            for goals in ([], [0], list(range(len(choice)))):
                costs = [[5] * len(ways) for ways in choice]
                kept = copy.deepcopy((choice, costs, goals))
                first = least_costs(choice, costs, goals)
                second = least_costs(choice, costs, goals)
                expected = copy.deepcopy(second)
                self.assertEqual(first, second)
                for place in (0, 1):
                    self.assertIsNot(first[place], second[place])
                    first[place][0] = "other"
                    first[place].append("more")
                self.assertEqual(second, expected)
                self.assertEqual((choice, costs, goals), kept)
                self.assertEqual(least_costs(*copy.deepcopy(kept)), expected)


class RefusalsTest(unittest.TestCase):
    def test_costs_that_are_none(self):
        for choice in (ring_choice(1, 1), ring_choice(1, 4), CLIMB, ring_choice(6, 4)):
            for turn, costs in enumerate(wrong_costs(choice)):
                with self.subTest(rooms=len(choice), turn=turn):
                    with self.assertRaises(NoCosts):
                        least_costs(choice, costs, [0])

    def test_one_more_and_one_less(self):
        for count in range(1, 7):
            for ways in range(1, 5):
                good = [[1] * ways for room in range(count)]
                self.assertEqual(least_costs(ring_choice(count, ways), good, [0])[0][0], NOUGHT)
                for wrong in (good[1:], good + [[1] * ways], good[:-1] + [[1] * (ways + 1)],
                              good[:-1] + [[1] * (ways - 1)]):
                    with self.assertRaises(NoCosts):
                        least_costs(ring_choice(count, ways), wrong, [0])

    def test_costs_in_goals_and_where_there_is_no_cost_are_looked_at_too(self):
        for room in range(3):
            costs = [[1, 1], [1, 1], [1]]
            costs[room][0] = 0
            for goals in ([], [room], [0, 1, 2]):
                with self.assertRaises(NoCosts):
                    least_costs(CLIMB, costs, goals)

    def test_goals_that_are_not_some_rooms(self):
        for choice in (ring_choice(1, 1), ring_choice(2, 4), CLIMB, ring_choice(6, 4)):
            costs = [[1] * len(ways) for ways in choice]
            for turn, goals in enumerate(wrong_rooms(len(choice))):
                with self.subTest(rooms=len(choice), turn=turn):
                    with self.assertRaises(NoRooms):
                        least_costs(choice, costs, goals)

    def test_no_choice_goes_ahead_of_all(self):
        for turn, choice in enumerate(WRONG_CHOICES):
            for costs in ([[1]], [], None, [[0]], Odd()):
                for goals in ([0], [], None, [-1], Odd()):
                    with self.subTest(turn=turn):
                        with self.assertRaises(NoChoice):
                            least_costs(choice, costs, goals)

    def test_no_costs_goes_ahead_of_no_rooms(self):
        for turn, costs in enumerate(wrong_costs(CLIMB)):
            for goals in (None, (0,), [-1], [3], [True], Odd()):
                with self.subTest(turn=turn):
                    with self.assertRaises(NoCosts):
                        least_costs(CLIMB, costs, goals)

    def test_taken_as_any_refusal(self):
        for kind in (ChanceError, ValueError):
            with self.assertRaises(kind):
                least_costs(CLIMB, None, [0])
            with self.assertRaises(kind):
                least_costs(CLIMB, [[1, 1], [1, 1], [1]], (0,))


if __name__ == "__main__":
    unittest.main()
