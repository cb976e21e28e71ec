import copy
import random
import unittest

from lotwander.errors import ChanceError, NoText, NoWalk
from lotwander.texts import read, shown
from tests.samples import (HALF, ONE, RING, STAY, SWAP, THIRDS, WIDE, WRONG_WALKS, Odd, gamble, many_walks, narrow_walk,
                           number)

WRITTEN = "1/3>0 2/3>1 ; 1>0"
LARGEST = 10 ** 30 - 1


class ShownTest(unittest.TestCase):
    def test_how_a_walk_is_written(self):
        self.assertEqual(shown(STAY), "1>0")
        self.assertEqual(shown(SWAP), "1>1 ; 1>0")
        self.assertEqual(shown(THIRDS), WRITTEN)
        self.assertEqual(shown(RING), "1>1 ; 1>2 ; 1>3 ; 1>4 ; 1>5 ; 1>6 ; 1>7 ; 1>0")
        every = " ".join(f"1/8>{room}" for room in range(8))
        self.assertEqual(shown(WIDE), " ; ".join([every] * 8))
        walk = (((0, (1, 6)), (1, (1, 3)), (2, HALF)), ((2, ONE),), ((0, (7, 10)), (2, (3, 10))))
        self.assertEqual(shown(walk), "1/6>0 1/3>1 1/2>2 ; 1>2 ; 7/10>0 3/10>2")

    def test_it_is_a_text(self):
        for walk in many_walks(81, 3):
            self.assertIs(type(shown(walk)), str)

    def test_numbers_of_thirty_figures_and_more(self):
        for lower in (LARGEST, LARGEST + 2, 10 ** 100):
            walk = (((0, (1, lower)), (1, (lower - 1, lower))), ((1, ONE),))
            self.assertEqual(shown(walk), f"1/{lower}>0 {lower - 1}/{lower}>1 ; 1>1")

    def test_no_walk(self):
        for turn, walk in enumerate(WRONG_WALKS):
            with self.subTest(turn=turn):
                with self.assertRaises(NoWalk):
                    shown(walk)

    def test_taken_as_any_refusal(self):
        for kind in (ChanceError, ValueError):
            with self.assertRaises(kind):
                shown(None)

    def test_nothing_changed_and_equal_each_time(self):
        for walk in many_walks(82, 3):
            kept = copy.deepcopy(walk)
            self.assertEqual(shown(walk), shown(copy.deepcopy(kept)))
            self.assertEqual(walk, kept)


class ReadTest(unittest.TestCase):
    def refused(self, *texts):
        for text in texts:
            with self.subTest(text=text):
                with self.assertRaises(NoText):
                    read(text)

    def test_there_and_back(self):
        source = random.Random(83)
        walks = many_walks(84, 30)
        for count in range(1, 9):
            walks += [narrow_walk(source, count) for turn in range(10)]
            walks.append(tuple(((room, ONE),) for room in range(count)))
        walks.append(gamble(number((10 ** 20 + 1, 3 * 10 ** 20))))
        for walk in walks:
            with self.subTest(walk=walk):
                told = read(shown(walk))
                self.assertEqual(told, walk)
                self.assertIs(type(told), tuple)
                self.assertEqual(shown(told), shown(walk))

    def test_of_which_kinds_the_walk_is(self):
        self.assertEqual(repr(read(WRITTEN)), repr(THIRDS))
        self.assertEqual(repr(read("1>0")), repr(STAY))

    def test_numbers_of_at_most_thirty_figures(self):
        walk = (((0, (1, LARGEST)), (1, (LARGEST - 1, LARGEST))), ((1, ONE),))
        self.assertEqual(read(shown(walk)), walk)
        for lower in (LARGEST + 1, LARGEST + 2, 10 ** 31, 10 ** 100):
            self.refused(shown((((0, (1, lower)), (1, (lower - 1, lower))), ((1, ONE),))))
        self.refused("9" * 31 + "/" + "9" * 31 + ">0", "1>" + "0" * 31, "0" * 30 + "1>0", "1" + "0" * 5000 + ">0",
                     "1/" + "1" * 5000 + ">0", "1>" + "9" * 5000)

    def test_blanks(self):
        self.refused(" 1>0", "1>0 ", " " + WRITTEN, WRITTEN + " ", "1/3>0  2/3>1 ; 1>0", "1/3>0 2/3>1  ; 1>0",
                     "1/3>0 2/3>1 ;  1>0", "1/3>0 2/3>1;1>0", "1/3>0 2/3>1; 1>0", "1/3>0 2/3>1 ;1>0",
                     "1/3>02/3>1 ; 1>0", "1 >0", "1> 0", "1 / 3>0 2/3>1 ; 1>0", "1/ 3>0 2/3>1 ; 1>0",
                     "1 /3>0 2/3>1 ; 1>0", " ", "  ", "   ")
        self.refused("1>0\t", "\t1>0", "1/3>0\t2/3>1 ; 1>0", "1/3>0\u00a02/3>1 ; 1>0", "1/3>0 2/3>1\t;\t1>0", "1>0\r",
                     "1>0\x00", "\ufeff1>0", "1>0\u2003")

    def test_line_ends(self):
        self.refused("\n", "1>0\n", "\n1>0", WRITTEN + "\n", "1>1\n;\n1>0", "1>1 ;\n1>0", "1>1\n1>0", "1\n>0",
                     "1>0\r\n", "1>1 ; 1>0\n", "1/3>0\n2/3>1 ; 1>0", "1>0\u2028")

    def test_noughts_ahead(self):
        self.refused("01>0", "1>00", "1/03>0 2/3>1 ; 1>0", "01/3>0 2/3>1 ; 1>0", "1/3>00 2/3>1 ; 1>0",
                     "1/3>0 2/3>01 ; 1>0", "1/3>0 2/3>1 ; 01>0", "1/3>0 2/3>1 ; 1>00", "001>0")

    def test_shares_not_in_lowest_terms(self):
        self.refused("2/6>0 2/3>1 ; 1>0", "1/3>0 4/6>1 ; 1>0", "2/4>0 2/4>1 ; 1>0", "2/2>0", "3/3>0", "2/2>0 ; 1>0")

    def test_a_whole_share(self):
        self.refused("1/1>0", "1/1>1 ; 1>0", "1>1 ; 1/1>0", "2>0", "0>0", "2/1>0", "0>0 1>1 ; 1>0", "0/1>0 1>1 ; 1>0")

    def test_shares_that_do_not_come_to_one(self):
        self.refused("1/2>0", "1/3>0 1/3>1 ; 1>0", "1/3>0 2/3>1 ; 1/2>0", "1>0 1>1 ; 1>0", "1/2>0 1>1 ; 1>0", "3/2>0",
                     "1/3>0 3/4>1 ; 1>0", "1/0>0", "0/0>0", "1/3>0 2/0>1 ; 1>0")

    def test_rooms_falling_or_twice(self):
        self.refused("2/3>1 1/3>0 ; 1>0", "1/2>0 1/2>0", "1/2>1 1/2>1 ; 1>0", "1/3>0 1/3>2 1/3>1 ; 1>0 ; 1>0")

    def test_rooms_that_are_none(self):
        self.refused("1>1", "1>2 ; 1>0", "1>1 ; 1>2", "1>8", "1>-1", "1>+0", "1>-0", "1>", "1>a", "1>0.0", "1>0x0",
                     "1/2>0 1/2>2 ; 1>0", "1>10 ; 1>0")

    def test_number_of_rooms(self):
        nine = " ; ".join(f"1>{room}" for room in range(9))
        self.refused(nine, " ; ".join(["1>0"] * 9), " ; ".join(["1>0"] * 3000))
        self.assertEqual(len(read(" ; ".join(["1>0"] * 8))), 8)

    def test_parts_missing_or_too_many(self):
        self.refused("", ";", " ; ", "1>0 ; ", " ; 1>0", "1>0 ;", "; 1>0", "1>0 ;  ; 1>0", "1>1 ; ; 1>0", "1", "1/2",
                     ">", ">0", "/>0", "1/>0", "/1>0", "1>0>0", ">1>0", "1>0>", "1//2>0 1/2>1 ; 1>0",
                     "1/2/1>0 1/2>1 ; 1>0", "1/2>0/1 1/2>1 ; 1>0", "0>1>0", "1>0,1>1", "1>1 , 1>0",
                     "(((0, (1, 1)),),)", "1>0 ; 1>0 ; ")

    def test_signs_that_are_no_figures(self):
        self.refused("+1>0", "-1>0", "1_0>0", "1>0_0", "1.0>0", "1e0>0", "0x1>0", "a>0", "one>0", "1/3>0 2/3>1 ; I>0",
                     "-1/3>0 4/3>1 ; 1>0", "-1/-3>0 2/3>1 ; 1>0", "+1/3>0 2/3>1 ; 1>0", "1/+3>0 2/3>1 ; 1>0", "1\\1>0",
                     "1:0", "1=>0", "1<0", "0.5>0 0.5>1 ; 1>0")
        for one, nought in ("\u0661\u0660", "\uff11\uff10", "\u0967\u0966", "\u00b9\u2070", "\u2460\u24ea"):
            self.refused(one + ">0", "1>" + nought, one + "/3>0 2/3>1 ; 1>0", "1/3>0 2/3>" + one + " ; 1>0")
        self.refused("\u00bd>0 \u00bd>1 ; 1>0", "1>0 \uff1b 1>0", "1\uff1e0", "1\u22650", "1\u20442>0 1\u20442>1 ; 1>0",
                     "1>0\ud800", "\ud800")

    def test_only_what_is_written(self):
        # One sign more, one less or another one: only what some walk is written as is read, and as that walk.
        source = random.Random(85)
        signs = "01234567>/; 89-+\n"
        for walk in (STAY, SWAP, THIRDS, *[narrow_walk(source, count) for count in range(1, 9)]):
            text = shown(walk)
            for place in range(len(text)):
                changed = [text[:place] + text[place + 1:]]
                changed += [text[:place] + sign + text[place:] for sign in signs]
                changed += [text[:place] + sign + text[place + 1:] for sign in signs]
                for other in changed:
                    try:
                        told = read(other)
                    except NoText:
                        continue
                    self.assertEqual(shown(told), other)

    def test_what_is_no_text(self):
        things = (None, 0, 1, True, False, 1.5, b"1>0", bytearray(b"1>0"), [], ["1>0"], ("1>0",), (), {}, {"1>0": 1},
                  {"1>0"}, STAY, SWAP, Odd(), object(), str, iter("1>0"), range(1))
        for turn, thing in enumerate(things):
            with self.subTest(turn=turn):
                with self.assertRaises(NoText):
                    read(thing)

    def test_taken_as_any_refusal(self):
        for kind in (ChanceError, ValueError):
            for text in ("", "1/2>0", "a", None):
                with self.assertRaises(kind):
                    read(text)

    def test_equal_each_time(self):
        self.assertEqual(read(WRITTEN), read("".join(list(WRITTEN))))


if __name__ == "__main__":
    unittest.main()
