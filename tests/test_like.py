import copy
import random
import unittest
from fractions import Fraction

from lotwander.coming import chances, waits
from lotwander.errors import ChanceError, NoMarks, NoWalk
from lotwander.like import likeness, put_together
from lotwander.walks import after, checked
from tests.samples import (HALF, ONE, RING, STAY, SWAP, THIRDS, WIDE, WRONG_WALKS, Odd, many_walks, narrow_walk,
                           number, share, spread_of, wrong_marks)

# Each room leads to the next one, the last to itself.
ROW = tuple(((min(room + 1, 7), ONE),) for room in range(8))
# 0 and 1 go with other shares to 2 and to 3, which are like; so 0 and 1 are like too.
SPLIT = (((2, (1, 3)), (3, (2, 3))), ((2, HALF), (3, HALF)), ((0, ONE),), ((1, ONE),))


def partings(marks):
    # All ways to part the rooms with no two marks in one part: for each room the least one of its part.
    found = [[]]
    for room, mark in enumerate(marks):
        longer = []
        for begun in found:
            longer.append(begun + [room])
            longer += [begun + [least] for least in sorted(set(begun)) if marks[least] == mark]
        found = longer
    return found


def fits(rows, parted):
    for room, least in enumerate(parted):
        for part in set(parted):
            inside = [other for other in range(len(parted)) if parted[other] == part]
            if sum(rows[room][other] for other in inside) != sum(rows[least][other] for other in inside):
                return False
    return True


def widest_by_trying(walk, marks):
    rows = [[share(walk, room, other) for other in range(len(walk))] for room in range(len(walk))]
    fitting = [parted for parted in partings(marks) if fits(rows, parted)]
    fewest = min(len(set(parted)) for parted in fitting)
    widest = [parted for parted in fitting if len(set(parted)) == fewest]
    if len(widest) != 1:
        raise AssertionError("more than one is the widest")
    return widest[0]


def split_walk(source, count):
    # A walk of fewer rooms, each of them split into several that share by chance what comes to it.
    few = narrow_walk(source, source.randint(1, count))
    parents = list(range(len(few))) + [source.randrange(len(few)) for room in range(count - len(few))]
    source.shuffle(parents)
    walk = []
    for room in range(count):
        parts = {}
        for target in range(len(few)):
            children = [other for other in range(count) if parents[other] == target]
            weights = [source.randint(0, 2) for child in children]
            weights[source.randrange(len(weights))] += 1
            for child, weight in zip(children, weights):
                parts[child] = share(few, parents[room], target) * Fraction(weight, sum(weights))
        walk.append(spread_of(parts))
    return tuple(walk), [source.choice((-3, 10 ** 40)) if parent == 0 else 7 for parent in parents]


def samples(seed, counts):
    source = random.Random(seed)
    for count in counts:
        yield split_walk(source, count)
        walk = narrow_walk(source, count)
        yield walk, [source.randint(-1, 1) for room in walk]
        yield walk, [0] * (count - 1) + [1]


class LikenessTest(unittest.TestCase):
    def test_like_trying_all_partings(self):
        for walk, marks in samples(31, [1, 2, 3, 4, 5, 6] * 8 + [7, 7, 8, 8]):
            with self.subTest(walk=walk, marks=marks):
                self.assertEqual(likeness(walk, marks), widest_by_trying(walk, marks))

    def test_kind(self):
        for walk, marks in samples(32, range(1, 9)):
            told = likeness(walk, marks)
            self.assertIsInstance(told, list)
            self.assertEqual(len(told), len(walk))
            self.assertTrue(all(type(room) is int for room in told))

    def test_one_mark_for_all(self):
        for walk in many_walks(33, 5):
            for mark in (0, -1, 10 ** 30):
                self.assertEqual(likeness(walk, [mark] * len(walk)), [0] * len(walk))

    def test_a_mark_for_each(self):
        for walk in many_walks(34, 5):
            self.assertEqual(likeness(walk, list(range(len(walk), 0, -1))), list(range(len(walk))))

    def test_parted_only_after_several_turns(self):
        self.assertEqual(likeness(ROW, [0] * 7 + [1]), [0, 1, 2, 3, 4, 5, 6, 7])
        self.assertEqual(likeness(ROW, [1] + [0] * 7), [0, 1, 1, 1, 1, 1, 1, 1])
        self.assertEqual(likeness(ROW, [0, 0, 0, 1, 0, 0, 0, 0]), [0, 1, 2, 3, 4, 4, 4, 4])
        two_rows = (((2, ONE),), ((3, ONE),), ((4, ONE),), ((5, ONE),), ((6, ONE),), ((7, ONE),), ((6, ONE),), ((7, ONE),))
        self.assertEqual(likeness(two_rows, [0, 0, 0, 0, 0, 0, 1, 1]), [0, 0, 2, 2, 4, 4, 6, 6])
        self.assertEqual(likeness(two_rows, [0, 0, 0, 0, 0, 0, 1, 2]), [0, 1, 2, 3, 4, 5, 6, 7])
        self.assertEqual(likeness(two_rows, [0, 0, 0, 0, 0, 0, 1, 0]), [0, 1, 2, 1, 4, 1, 6, 1])

    def test_shares_of_like_rooms_count_together(self):
        self.assertEqual(likeness(SPLIT, [5, 5, 6, 6]), [0, 0, 2, 2])
        self.assertEqual(likeness(SPLIT, [5, 5, 6, 7]), [0, 1, 2, 3])
        self.assertEqual(likeness(SPLIT, [5, 6, 7, 7]), [0, 1, 2, 3])

    def test_shares_among_their_own_part_them_too(self):
        walk = (((0, HALF), (2, HALF)), ((1, (1, 3)), (2, (2, 3))), ((2, ONE),))
        self.assertEqual(likeness(walk, [0, 0, 1]), [0, 1, 2])
        walk = (((1, HALF), (2, HALF)), ((1, HALF), (2, HALF)), ((2, ONE),))
        self.assertEqual(likeness(walk, [0, 0, 1]), [0, 0, 2])

    def test_rooms_with_other_marks_are_not_like(self):
        self.assertEqual(likeness(SWAP, [1, 2]), [0, 1])
        self.assertEqual(likeness(SWAP, [1, 1]), [0, 0])
        self.assertEqual(likeness(WIDE, [3, 1, 3, 1, 2, 2, 1, 3]), [0, 1, 0, 1, 4, 4, 1, 0])
        self.assertEqual(likeness(RING, [0, 1] * 4), [0, 1] * 4)
        self.assertEqual(likeness(RING, [0, 0, 0, 1] * 2), [0, 1, 2, 3] * 2)

    def test_marks_negative_or_great(self):
        large = 10 ** 60
        self.assertEqual(likeness(WIDE, [-1, 1, -1, 1, -large, large, large + 1, large]), [0, 1, 0, 1, 4, 5, 6, 5])
        self.assertEqual(likeness(WIDE, [2 ** 61 - 1, 0, 2 ** 61 - 2, -1, -2, -1, 0, 2 ** 64]), [0, 1, 2, 3, 4, 3, 1, 7])

    def test_shares_that_hardly_differ(self):
        large = 10 ** 40
        walk = (((2, (1, large)), (3, (large - 1, large))), ((2, (1, large + 1)), (3, (large, large + 1))),
                ((2, ONE),), ((3, ONE),))
        self.assertEqual(likeness(walk, [0, 0, 1, 2]), [0, 1, 2, 3])

    def test_a_new_list_each_time_and_nothing_changed(self):
        for walk, marks in ((STAY, [0]), (SWAP, [0, 1]), (SPLIT, [5, 5, 6, 6]), (WIDE, list(range(8)))):
            kept = copy.deepcopy((walk, marks))
            first = likeness(walk, marks)
            second = likeness(walk, marks)
            expected = list(second)
            self.assertEqual(first, second)
            self.assertIsNot(first, second)
            self.assertIsNot(first, marks)
            first[0] = "other"
            first.append("more")
            self.assertEqual(second, expected)
            self.assertEqual((walk, marks), kept)
            self.assertEqual(likeness(*copy.deepcopy(kept)), expected)


class PutTogetherTest(unittest.TestCase):
    def test_the_least_rooms_in_their_order_with_shares_together(self):
        for walk, marks in samples(35, list(range(1, 9)) * 5):
            with self.subTest(walk=walk, marks=marks):
                alike = likeness(walk, marks)
                least = sorted(set(alike))
                told = put_together(walk, marks)
                self.assertIs(checked(told), told)
                self.assertEqual(len(told), len(least))
                for room, first in enumerate(least):
                    for target, second in enumerate(least):
                        whole = sum(share(walk, first, other) for other in range(len(walk)) if alike[other] == second)
                        self.assertEqual(share(told, room, target), whole)

    def test_what_is_told(self):
        self.assertEqual(put_together(STAY, [4]), STAY)
        self.assertEqual(put_together(SWAP, [0, 0]), STAY)
        self.assertEqual(put_together(SWAP, [0, 1]), SWAP)
        self.assertEqual(put_together(THIRDS, [0, 1]), THIRDS)
        self.assertEqual(put_together(SPLIT, [5, 5, 6, 6]), SWAP)
        self.assertEqual(put_together(SPLIT, [5, 5, 6, 7]), SPLIT)
        self.assertEqual(put_together(WIDE, [1, 1, 2, 1, 1, 3, 1, 1]), (((0, (3, 4)), (1, (1, 8)), (2, (1, 8))),) * 3)
        self.assertEqual(put_together(RING, [1, 0, 0, 0] * 2), (((1, ONE),), ((2, ONE),), ((3, ONE),), ((0, ONE),)))

    def test_nothing_that_is_asked_changes(self):
        for walk, marks in samples(36, list(range(1, 9)) * 3):
            alike = likeness(walk, marks)
            least = sorted(set(alike))
            place = [least.index(first) for first in alike]
            told = put_together(walk, marks)
            for wanted in sorted(set(marks)):
                goals = [room for room in range(len(walk)) if marks[room] == wanted]
                together = sorted({place[room] for room in goals})
                for asked in (chances, waits):
                    few = asked(told, together)
                    self.assertEqual(asked(walk, goals), [few[place[room]] for room in range(len(walk))], (walk, marks))
            for start in range(len(walk)):
                for steps in (0, 1, 2, 5):
                    wide = after(walk, start, steps)
                    few = after(told, place[start], steps)
                    for target in range(len(least)):
                        inside = [number(wide[room]) for room in range(len(walk)) if place[room] == target]
                        self.assertEqual(number(few[target]), sum(inside), (walk, marks))

    def test_it_cannot_be_put_together_further(self):
        for walk, marks in samples(37, range(1, 9)):
            kept = [marks[room] for room in sorted(set(likeness(walk, marks)))]
            told = put_together(walk, marks)
            self.assertEqual(likeness(told, kept), list(range(len(told))))
            self.assertEqual(put_together(told, kept), told)

    def test_nothing_changed_and_equal_each_time(self):
        for walk, marks in ((STAY, [0]), (SPLIT, [5, 5, 6, 6]), (WIDE, list(range(8)))):
            kept = copy.deepcopy((walk, marks))
            first = put_together(walk, marks)
            self.assertEqual(first, put_together(*copy.deepcopy(kept)))
            self.assertEqual((walk, marks), kept)

    def test_marks_changed_behind_a_call_are_seen_by_the_next(self):
        marks = [5, 5, 6, 6]
        self.assertEqual(put_together(SPLIT, marks), SWAP)
        marks[3] = 7
        self.assertEqual(put_together(SPLIT, marks), SPLIT)
        self.assertEqual(likeness(SPLIT, marks), [0, 1, 2, 3])


class RefusalsTest(unittest.TestCase):
    def test_marks_that_are_none(self):
        for asked in (likeness, put_together):
            for walk in (STAY, SWAP, SPLIT, RING):
                for turn, marks in enumerate(wrong_marks(len(walk))):
                    with self.subTest(asked=asked.__name__, rooms=len(walk), turn=turn):
                        with self.assertRaises(NoMarks):
                            asked(walk, marks)

    def test_one_more_and_one_less(self):
        for asked in (likeness, put_together):
            for count in range(1, 9):
                walk = tuple(((room, ONE),) for room in range(count))
                for wrong in (count - 1, count + 1):
                    with self.assertRaises(NoMarks):
                        asked(walk, list(range(wrong)))
                self.assertEqual(len(asked(walk, list(range(count)))), count)

    def test_no_walk_goes_ahead(self):
        for asked in (likeness, put_together):
            for turn, walk in enumerate(WRONG_WALKS):
                for marks in ([0], [0, 0], [], (0,), None, [True], "0", Odd()):
                    with self.subTest(asked=asked.__name__, turn=turn):
                        with self.assertRaises(NoWalk):
                            asked(walk, marks)

    def test_taken_as_any_refusal(self):
        for asked in (likeness, put_together):
            for kind in (ChanceError, ValueError):
                with self.assertRaises(kind):
                    asked(STAY, (0,))


if __name__ == "__main__":
    unittest.main()
