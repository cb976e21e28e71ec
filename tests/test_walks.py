import copy
import random
import unittest
from fractions import Fraction

from lotwander.errors import ChanceError, NoRooms, NoWalk
from lotwander.fracs import is_fraction
from lotwander.walks import after, checked
from tests.samples import HALF, ONE, RING, STAY, SWAP, THIRDS, WIDE, Odd, some_walk


def two_rooms_with(spread):
    return (spread, ((0, ONE),))


def two_rooms_sharing(share):
    return two_rooms_with(((0, share), (1, HALF)))


def step_by_step(walk, start, steps):
    now = [Fraction(int(room == start)) for room in range(len(walk))]
    for step in range(steps):
        then = [Fraction(0)] * len(walk)
        for room, spread in enumerate(walk):
            for target, (upper, lower) in spread:
                then[target] += now[room] * Fraction(upper, lower)
        now = then
    return [(share.numerator, share.denominator) for share in now]


class CheckedTest(unittest.TestCase):
    def refused(self, *things):
        for number, thing in enumerate(things):
            with self.subTest(number=number):
                with self.assertRaises(NoWalk):
                    checked(thing)
                with self.assertRaises(NoWalk):
                    after(thing, 0, 1)

    def test_tells_a_walk(self):
        source = random.Random(1)
        large = 10 ** 40
        walks = [STAY, SWAP, THIRDS, RING, WIDE, two_rooms_with(((0, (1, large)), (1, (large - 1, large))))]
        walks.append((((0, (1, 2)), (1, (1, 3)), (2, (1, 6))), ((2, ONE),), ((1, HALF), (2, HALF))))
        for walk in walks + [some_walk(source) for number in range(50)]:
            with self.subTest(walk=walk):
                before = copy.deepcopy(walk)
                self.assertIs(checked(walk), walk)
                self.assertEqual(walk, before)

    def test_tells_a_walk_of_each_number_of_rooms(self):
        for count in range(1, 9):
            walk = tuple(((room, ONE),) for room in range(count))
            self.assertEqual(checked(walk), walk)

    def test_other_kinds(self):
        self.refused([((0, ONE),)], [], None, 0, 1, True, 1.5, "", "1>0", b"1", {}, {0: ((0, ONE),)}, set(),
                     range(1), object(), Odd(), int, checked)

    def test_number_of_rooms(self):
        self.refused((), RING + (((0, ONE),),), tuple(((room, ONE),) for room in range(9)), STAY * 1000)

    def test_spreads_of_other_kinds(self):
        self.refused(([(0, ONE)],), (None,), (0,), ("",), ("ab",), ({},), ({0: ONE},), (Odd(),), ((0, ONE),),
                     two_rooms_with([(0, ONE)]), (((0, ONE),), [(0, ONE)]), (((0, ONE),), None))

    def test_empty_spread(self):
        self.refused(((),), two_rooms_with(()), (((0, ONE),), ()))

    def test_order_of_pairs(self):
        self.refused(two_rooms_with(((1, HALF), (0, HALF))), two_rooms_with(((0, HALF), (0, HALF))),
                     two_rooms_with(((1, HALF), (1, HALF))),
                     (((0, (1, 3)), (2, (1, 3)), (1, (1, 3))), ((0, ONE),), ((0, ONE),)))

    def test_pairs_of_other_kinds(self):
        self.refused(([[0, ONE]],), (([0, ONE],),), ((0,),), (((0,),),), (((0, ONE, 1),),), (((),),), ((None,),),
                     (("ab",),), ((Odd(),),), two_rooms_with(((0, HALF), [1, HALF])))

    def test_rooms_that_are_none(self):
        for room in (-1, 2, 3, True, False, "0", "", 0.0, 1.0, None, (), (0,), [], Odd()):
            self.refused(two_rooms_with(((room, ONE),)), (((0, ONE),), ((room, ONE),)))
        self.refused((((1, ONE),),), (((False, HALF), (1, HALF)), ((0, ONE),)), (((0, HALF), (True, HALF)), ((0, ONE),)))

    def test_shares_that_are_none(self):
        wrong = ((2, 4), (1, 0), (0, 0), (-1, -2), (1, -2), (True, 2), (1, True), (True, True), 1, 0, True, 0.5, "1/2",
                 None, (), (1,), (1, 2, 1), [1, 2], (1.0, 2), (1, 2.0), (0.5, 1), ("1", "2"), (None, 2), Fraction(1, 2),
                 (Odd(), 2), (1, Odd()), Odd())
        self.refused(*[two_rooms_sharing(share) for share in wrong])
        self.refused(*[(((0, share),),) for share in (1, True, (2, 2), (1, True), (True, 1), [1, 1], (-1, -1), 1.0)])

    def test_shares_not_above_nought(self):
        self.refused(two_rooms_with(((0, (0, 1)), (1, ONE))), two_rooms_with(((0, ONE), (1, (0, 1)))),
                     two_rooms_with(((0, (-1, 2)), (1, (3, 2)))), two_rooms_with(((0, (2, 1)), (1, (-1, 1)))))

    def test_shares_together(self):
        self.refused((((0, HALF),),), (((0, (2, 1)),),), (((0, (3, 2)),),), two_rooms_sharing((1, 3)),
                     two_rooms_sharing((2, 3)), two_rooms_sharing(ONE),
                     two_rooms_sharing((10 ** 30, 2 * 10 ** 30 + 1)), (((0, ONE),), ((0, HALF), (1, (1, 3)))))

    def test_taken_as_any_refusal(self):
        for kind in (ChanceError, ValueError):
            with self.assertRaises(kind):
                checked(None)


class AfterTest(unittest.TestCase):
    def test_no_steps(self):
        for start in range(2):
            self.assertEqual(after(THIRDS, start, 0), [(int(room == start), 1) for room in range(2)])
        self.assertEqual(after(RING, 5, 0), [(int(room == 5), 1) for room in range(8)])
        self.assertEqual(after(STAY, 0, 0), [ONE])

    def test_one_step(self):
        self.assertEqual(after(THIRDS, 0, 1), [(1, 3), (2, 3)])
        self.assertEqual(after(THIRDS, 1, 1), [(1, 1), (0, 1)])
        self.assertEqual(after(WIDE, 3, 1), [(1, 8)] * 8)

    def test_several_steps(self):
        self.assertEqual(after(THIRDS, 0, 2), [(7, 9), (2, 9)])
        self.assertEqual(after(THIRDS, 0, 3), [(13, 27), (14, 27)])
        self.assertEqual(after(THIRDS, 1, 3), [(7, 9), (2, 9)])
        self.assertEqual(after(WIDE, 3, 20), [(1, 8)] * 8)
        self.assertEqual(after(STAY, 0, 7), [ONE])

    def test_like_going_step_by_step(self):
        source = random.Random(2)
        for number in range(60):
            walk = some_walk(source)
            start = source.randrange(len(walk))
            for steps in (0, 1, 2, 3, 4, 5, 6, 7, 11, 16, 21):
                told = after(walk, start, steps)
                self.assertEqual(told, step_by_step(walk, start, steps), (walk, start, steps))

    def test_tells_fractions_that_come_to_one(self):
        source = random.Random(3)
        for number in range(40):
            walk = some_walk(source)
            told = after(walk, 0, source.randint(0, 40))
            self.assertIsInstance(told, list)
            self.assertEqual(len(told), len(walk))
            self.assertTrue(all(is_fraction(share) and share[0] >= 0 for share in told))
            self.assertEqual(sum(Fraction(*share) for share in told), 1)

    def test_many_steps(self):
        self.assertEqual(after(SWAP, 0, 10 ** 18 + 1), [(0, 1), ONE])
        self.assertEqual(after(RING, 0, 10 ** 18 + 3), [(int(room == 3), 1) for room in range(8)])
        fork = (((1, HALF), (2, HALF)), ((1, ONE),), ((2, ONE),))
        self.assertEqual(after(fork, 0, 10 ** 18), [(0, 1), HALF, HALF])
        leaving = (((0, HALF), (1, HALF)), ((1, ONE),))
        self.assertEqual(after(leaving, 0, 3000), [(1, 2 ** 3000), (2 ** 3000 - 1, 2 ** 3000)])

    def test_a_new_list_each_time_and_nothing_changed(self):
        for steps in (0, 1, 5):
            before = copy.deepcopy(THIRDS)
            first = after(THIRDS, 0, steps)
            second = after(copy.deepcopy(THIRDS), 0, steps)
            self.assertEqual(first, second)
            self.assertIsNot(first, after(THIRDS, 0, steps))
            first.clear()
            self.assertEqual(after(THIRDS, 0, steps), second)
            self.assertEqual(THIRDS, before)

    def test_start_that_is_no_room(self):
        things = (-1, 2, 3, 10 ** 30, True, False, "0", "", 0.0, 1.0, None, (), (0,), [0], {}, Odd(), Fraction(0))
        for number, start in enumerate(things):
            for steps in (0, 1):
                with self.subTest(number=number, steps=steps):
                    with self.assertRaises(NoRooms):
                        after(THIRDS, start, steps)
        for count in range(1, 9):
            walk = tuple(((room, ONE),) for room in range(count))
            with self.assertRaises(NoRooms):
                after(walk, count, 1)
            self.assertEqual(after(walk, count - 1, 1)[-1], ONE)

    def test_no_walk_goes_ahead_of_no_room(self):
        for thing in (None, (), [((0, ONE),)], (((0, HALF),),)):
            with self.assertRaises(NoWalk):
                after(thing, -1, 1)


if __name__ == "__main__":
    unittest.main()
