# Walks, choices and wrong things that several tests use.
import itertools
import random
from fractions import Fraction
from math import gcd

ONE = (1, 1)
HALF = (1, 2)
STAY = (((0, ONE),),)
SWAP = (((1, ONE),), ((0, ONE),))
THIRDS = (((0, (1, 3)), (1, (2, 3))), ((0, ONE),))
EIGHT = tuple(((room + 1) % 8, ONE) for room in range(8))
RING = tuple((pair,) for pair in EIGHT)
WIDE = tuple(tuple((room, (1, 8)) for room in range(8)) for start in range(8))


class Odd:
    # A thing that bears nothing to be done with it.
    def fail(self, *others):
        raise RuntimeError("asked too much")

    __eq__ = __ne__ = __lt__ = __gt__ = __le__ = __ge__ = fail
    __len__ = __iter__ = __getitem__ = __bool__ = __repr__ = __str__ = __hash__ = __int__ = __index__ = fail


def some_walk(source):
    count = source.randint(1, 8)
    walk = []
    for start in range(count):
        rooms = sorted(source.sample(range(count), source.randint(1, count)))
        parts = [source.randint(1, 9) for room in rooms]
        shares = [Fraction(part, sum(parts)) for part in parts]
        walk.append(tuple((room, (share.numerator, share.denominator)) for room, share in zip(rooms, shares)))
    return tuple(walk)


def pair(number):
    return (number.numerator, number.denominator)


def spread_of(parts):
    whole = sum(parts.values())
    return tuple((room, pair(Fraction(part, whole))) for room, part in sorted(parts.items()) if part)


def narrow_walk(source, count):
    # With few ways out of each room, so that there are several ends, beats, and rooms that no goal can be come to from.
    walk = []
    for start in range(count):
        rooms = source.sample(range(count), min(count, source.choice((1, 1, 2, 2, 3))))
        walk.append(spread_of({room: source.randint(1, 4) for room in rooms}))
    return tuple(walk)


def many_walks(seed, number):
    source = random.Random(seed)
    walks = [STAY, SWAP, THIRDS, RING, WIDE]
    for turn in range(number):
        walks.append(some_walk(source))
        walks.append(narrow_walk(source, source.randint(1, 8)))
        walks.append(narrow_walk(source, 8))
    return walks


def gamble(up):
    # Eight rooms in a row, the first and the last never left; the share up goes to the next one.
    down = 1 - up
    middle = [spread_of({room - 1: down, room + 1: up}) for room in range(1, 7)]
    return (((0, ONE),), *middle, ((7, ONE),))


def some_choice(source, count, most_ways):
    # Many ways that lead on for sure, so that there are rounds, and shares that are often alike.
    choice = []
    for start in range(count):
        ways = []
        for turn in range(source.randint(1, most_ways)):
            rooms = source.sample(range(count), min(count, source.choice((1, 1, 2, 2, 3))))
            ways.append(spread_of({room: source.choice((1, 1, 2)) for room in rooms}))
        choice.append(tuple(ways))
    return tuple(choice)


def many_choices(seed, number):
    source = random.Random(seed)
    for turn in range(number):
        for count in range(1, 7):
            yield some_choice(source, count, 4 if count < 5 else 2)


def ring_choice(count, ways):
    return tuple(tuple((((room + way) % count, ONE),) for way in range(ways)) for room in range(count))


def all_picks(choice):
    return [list(picks) for picks in itertools.product(*[range(len(ways)) for ways in choice])]


def walk_by(choice, picks):
    return tuple(ways[pick] for ways, pick in zip(choice, picks))


def share(walk, room, target):
    return sum(Fraction(*part) for other, part in walk[room] if other == target)


def reach(walk):
    rooms = range(len(walk))
    can = [[room == other or share(walk, room, other) > 0 for other in rooms] for room in rooms]
    for middle in rooms:
        for room in rooms:
            for other in rooms:
                can[room][other] = can[room][other] or (can[room][middle] and can[middle][other])
    return can


def subsets(count):
    return [[room for room in range(count) if number >> room & 1] for number in range(1 << count)]


def is_told_fraction(thing):
    return (isinstance(thing, tuple) and len(thing) == 2 and type(thing[0]) is int and type(thing[1]) is int
            and thing[1] >= 1 and gcd(thing[0], thing[1]) == 1)


def number(fraction):
    return Fraction(*fraction)


WRONG_WALKS = (None, 0, True, "", "1>0", (), [], [((0, ONE),)], {}, Odd(), (((0, HALF),),), (((0, ONE),),) * 9,
               (((1, ONE),),), (((0, (2, 2)),),), (((False, ONE),),), (((0, (1, True)),),), ([(0, ONE)],), ((),),
               (((1, HALF), (0, HALF)), ((0, ONE),)), (((0, (0, 1)), (1, ONE)), ((0, ONE),)))


def wrong_starts(count):
    return (-1, count, count + 1, 10 ** 30, True, False, "0", "", 0.0, 1.0, None, (), (0,), [], [0], {}, Odd(),
            Fraction(0))


def wrong_rooms(count):
    last = count - 1
    return [(), (0,), tuple(range(count)), None, True, False, 0, 1, -1, "", "0", 0.0, {}, {0: True}, set(), {0},
            range(count), iter([0]), Odd(), Fraction(0),
            [0, 0], [last, last], [last, last - 1], list(reversed(range(2))), [0, last, 0], [0, last, last],
            [-1], [-1, 0], [0, -1], [count], [0, count], [last, count], list(range(count + 1)), [10 ** 30],
            [True], [False], [0, True], [False, last], ["0"], ["a"], [""], [0, "1"], [None], [0, None], [0.0], [1.0],
            [0, 1.0], [[]], [[0]], [(0,)], [0, [1]], [Odd()], [0, Odd()], [Fraction(0)]]


def wrong_marks(count):
    good = [0] * count
    things = [(), tuple(good), tuple(range(count)), None, True, False, 0, count, "", "0" * count, 0.0, {}, set(),
              dict.fromkeys(range(count), 0), set(range(count)), range(count), iter(good), Odd(), Fraction(0),
              [], good + [0], good[1:], good + good]
    for thing in (True, False, "0", "", None, 0.0, 1.5, (), (0,), [], [0], {}, Odd(), Fraction(0)):
        things.append([thing] + good[1:])
        things.append(good[1:] + [thing])
        things.append(good + [thing])
    return things


SURE = ((0, ONE),)
WRONG_SPREADS = (None, 0, True, "", "ab", {}, {0: ONE}, [], [(0, ONE)], (), Odd(), (0, ONE), ((0, HALF),),
                 ((0, (2, 1)),), ((0, (2, 2)),), ((0, 1),), ((0, True),), ((0, (1, True)),), ((0, [1, 1]),),
                 ((0, 1.0),), ([0, ONE],), ((0, ONE, 0),), ((0,),), ((-1, ONE),), ((2, ONE),), ((True, ONE),),
                 ((False, ONE),), (("0", ONE),), ((0.0, ONE),), ((None, ONE),), ((Odd(), ONE),), ((0, Odd()),),
                 (Odd(),), ((1, HALF), (0, HALF)), ((0, HALF), (0, HALF)), ((0, HALF), (1, (1, 3))),
                 ((0, (0, 1)), (1, ONE)), ((0, (-1, 2)), (1, (3, 2))))
WRONG_CHOICES = (None, 0, 1, True, False, 1.5, "", "1>0", b"1", {}, {0: (SURE,)}, set(), range(1), Odd(), int, (), [],
                 [(SURE,)], STAY, SWAP, RING, ((SURE,),) * 7, ((SURE,),) * 8, ((),), ((SURE,), ()), ((), (SURE,)),
                 ((SURE,) * 5,), ((SURE,), (SURE,) * 5), ([SURE],), ((SURE,), [SURE]), (None,), (0,), ("",), ("a",),
                 ({},), ({0: SURE},), (Odd(),), (SURE,), ((((1, ONE),),),), ((SURE,), (((2, ONE),),)),
                 *[((SURE, spread), (SURE,)) for spread in WRONG_SPREADS],
                 *[((SURE,), (spread, SURE)) for spread in WRONG_SPREADS])


def wrong_picks(choice):
    good = [0] * len(choice)
    things = [(), tuple(good), None, True, False, 0, len(choice), "", "0" * len(choice), 0.0, {}, set(), {0},
              dict.fromkeys(range(len(choice)), 0), range(len(choice)), iter(good), Odd(), Fraction(0), [],
              good + [0], good[1:], good + good]
    for room, ways in enumerate(choice):
        for thing in (-1, len(ways), len(ways) + 1, 10 ** 30, True, False, "0", "", None, 0.0, 1.0, (), (0,), [], [0],
                      {}, Odd(), Fraction(0)):
            things.append(good[:room] + [thing] + good[room + 1:])
    return things


def wrong_costs(choice):
    good = [[1] * len(ways) for ways in choice]
    things = [(), tuple(good), tuple(tuple(costs) for costs in good), [tuple(costs) for costs in good], None, True,
              False, 0, 1, "", "1" * len(choice), 1.0, {}, dict(enumerate(good)), set(), range(1, len(choice) + 1),
              iter(good), Odd(), Fraction(1), [], [1] * len(choice), good + [[1]], good[1:], good + good]
    for room, costs in enumerate(good):
        for thing in (None, True, 0, 1, "", "1", (), tuple(costs), {}, {0: 1}, Odd(), [], costs + [1], costs[1:],
                      [costs], range(1, len(costs) + 1)):
            things.append(good[:room] + [thing] + good[room + 1:])
        for place in range(len(costs)):
            for cost in (0, -1, -10 ** 30, True, False, 1.0, 0.5, "1", "", None, (), (1, 1), [], [1], Odd(),
                         Fraction(1)):
                wrong = costs[:place] + [cost] + costs[place + 1:]
                things.append(good[:room] + [wrong] + good[room + 1:])
    return things


def wrong_begins(count):
    sure = [ONE] + [(0, 1)] * (count - 1)
    things = [(), tuple(sure), None, True, False, 0, 1, "", "1", 1.0, {}, {0: ONE}, set(), range(count), iter(sure),
              Odd(), Fraction(1), [], sure + [(0, 1)], sure[:-1], [(0, 1)] + sure, sure + sure, [(0, 1)] * count,
              [(1, 2)] + sure[1:], [(2, 1)] + sure[1:], [(1, count + 1)] * count, [(-1, 1)] + sure[1:],
              [1] + [0] * (count - 1), [1.0] * count]
    for thing in ((2, 2), (1, True), (True, 1), (True, True), (-1, -1), [1, 1], 1, True, 1.0, (1.0, 1), (1, 1.0), "1",
                  None, (), (1,), (1, 1, 1), ("1", "1"), Fraction(1), (1, 0), (0, 0), Odd(), (Odd(), 1), (1, Odd())):
        things.append([thing] + sure[1:])
    for thing in ((0, 2), (0, 0), (0, -1), (False, 1), (0, True), [0, 1], 0, False, 0.0, "0", None, (), (0,), Odd(),
                  Fraction(0)):
        if count > 1:
            things.append(sure[:-1] + [thing])
    if count > 1:
        things.append([(3, 2), (-1, 2)] + sure[2:])
        things.append([(2, 1), (-1, 1)] + sure[2:])
        things.append([(2, 4), (2, 4)] + sure[2:])
        things.append([(1, 2), (1, 3)] + sure[2:])
    return things


WRONG_SEEN = ((), (0,), (0, 0), None, True, False, 0, 1, "", "0", "01", b"0", 0.0, {}, {0: 0}, set(), {0}, range(1),
              range(2), iter([0]), Odd(), Fraction(0), [], [True], [False], [0, True], [False, 0], [0.0], [0, 1.0],
              ["0"], [""], [0, "0"], [None], [0, None], [None, 0], [()], [(0,)], [[]], [[0]], [0, [0]], [{}], [Odd()],
              [0, Odd()], [Fraction(0)])
