# Walks and wrong things that several tests use.
import random
from fractions import Fraction
from math import gcd

ONE = (1, 1)
HALF = (1, 2)
STAY = (((0, ONE),),)
SWAP = (((1, ONE),), ((0, ONE),))
THIRDS = (((0, (1, 3)), (1, (2, 3))), ((0, ONE),))
EIGHT = tuple(((room + 1) % 8, ONE) for room in range(8))
RING = tuple((pair,) for pair in EIGHT)
WIDE = tuple(tuple((room, (1, 8)) for room in range(8)) for start in range(8))


class Odd:
    # A thing that bears nothing to be done with it.
    def fail(self, *others):
        raise RuntimeError("asked too much")

    __eq__ = __ne__ = __lt__ = __gt__ = __le__ = __ge__ = fail
    __len__ = __iter__ = __getitem__ = __bool__ = __repr__ = __str__ = __hash__ = __int__ = __index__ = fail


def some_walk(source):
    count = source.randint(1, 8)
    walk = []
    for start in range(count):
        rooms = sorted(source.sample(range(count), source.randint(1, count)))
        parts = [source.randint(1, 9) for room in rooms]
        shares = [Fraction(part, sum(parts)) for part in parts]
        walk.append(tuple((room, (share.numerator, share.denominator)) for room, share in zip(rooms, shares)))
    return tuple(walk)


def pair(number):
    return (number.numerator, number.denominator)


def spread_of(parts):
    whole = sum(parts.values())
    return tuple((room, pair(Fraction(part, whole))) for room, part in sorted(parts.items()) if part)


def narrow_walk(source, count):
    # With few ways out of each room, so that there are several ends, beats, and rooms that no goal can be come to from.
    walk = []
    for start in range(count):
        rooms = source.sample(range(count), min(count, source.choice((1, 1, 2, 2, 3))))
        walk.append(spread_of({room: source.randint(1, 4) for room in rooms}))
    return tuple(walk)


def many_walks(seed, number):
    source = random.Random(seed)
    walks = [STAY, SWAP, THIRDS, RING, WIDE]
    for turn in range(number):
        walks.append(some_walk(source))
        walks.append(narrow_walk(source, source.randint(1, 8)))
        walks.append(narrow_walk(source, 8))
    return walks


def gamble(up):
    # Eight rooms in a row, the first and the last never left; the share up goes to the next one.
    down = 1 - up
    middle = [spread_of({room - 1: down, room + 1: up}) for room in range(1, 7)]
    return (((0, ONE),), *middle, ((7, ONE),))


def share(walk, room, target):
    return sum(Fraction(*part) for other, part in walk[room] if other == target)


def reach(walk):
    rooms = range(len(walk))
    can = [[room == other or share(walk, room, other) > 0 for other in rooms] for room in rooms]
    for middle in rooms:
        for room in rooms:
            for other in rooms:
                can[room][other] = can[room][other] or (can[room][middle] and can[middle][other])
    return can


def subsets(count):
    return [[room for room in range(count) if number >> room & 1] for number in range(1 << count)]


def is_told_fraction(thing):
    return (isinstance(thing, tuple) and len(thing) == 2 and type(thing[0]) is int and type(thing[1]) is int
            and thing[1] >= 1 and gcd(thing[0], thing[1]) == 1)


def number(fraction):
    return Fraction(*fraction)


WRONG_WALKS = (None, 0, True, "", "1>0", (), [], [((0, ONE),)], {}, Odd(), (((0, HALF),),), (((0, ONE),),) * 9,
               (((1, ONE),),), (((0, (2, 2)),),), (((False, ONE),),), (((0, (1, True)),),), ([(0, ONE)],), ((),),
               (((1, HALF), (0, HALF)), ((0, ONE),)), (((0, (0, 1)), (1, ONE)), ((0, ONE),)))


def wrong_starts(count):
    return (-1, count, count + 1, 10 ** 30, True, False, "0", "", 0.0, 1.0, None, (), (0,), [], [0], {}, Odd(),
            Fraction(0))


def wrong_rooms(count):
    last = count - 1
    return [(), (0,), tuple(range(count)), None, True, False, 0, 1, -1, "", "0", 0.0, {}, {0: True}, set(), {0},
            range(count), iter([0]), Odd(), Fraction(0),
            [0, 0], [last, last], [last, last - 1], list(reversed(range(2))), [0, last, 0], [0, last, last],
            [-1], [-1, 0], [0, -1], [count], [0, count], [last, count], list(range(count + 1)), [10 ** 30],
            [True], [False], [0, True], [False, last], ["0"], ["a"], [""], [0, "1"], [None], [0, None], [0.0], [1.0],
            [0, 1.0], [[]], [[0]], [(0,)], [0, [1]], [Odd()], [0, Odd()], [Fraction(0)]]


def wrong_marks(count):
    good = [0] * count
    things = [(), tuple(good), tuple(range(count)), None, True, False, 0, count, "", "0" * count, 0.0, {}, set(),
              dict.fromkeys(range(count), 0), set(range(count)), range(count), iter(good), Odd(), Fraction(0),
              [], good + [0], good[1:], good + good]
    for thing in (True, False, "0", "", None, 0.0, 1.5, (), (0,), [], [0], {}, Odd(), Fraction(0)):
        things.append([thing] + good[1:])
        things.append(good[1:] + [thing])
        things.append(good + [thing])
    return things
