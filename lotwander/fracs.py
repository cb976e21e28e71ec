"""Reckoning with fractions: tuples (upper, lower) in lowest terms, lower from 1 on."""

NOUGHT = (0, 1)
ONE = (1, 1)


def is_whole(thing):
    # Python counts True and False as whole numbers; here they are none.
    return isinstance(thing, int) and not isinstance(thing, bool)


def common_divisor(first, second):
    # The greatest one; of nought and a number it is the number, so a row of divisors may begin with 0.
    larger = abs(first)
    smaller = abs(second)
    while smaller > 0:
        rest = larger % smaller
        larger = smaller
        smaller = rest
    return larger


def common_multiple(first, second):
    return first // common_divisor(first, second) * second


def is_fraction(thing):
    if not isinstance(thing, tuple) or len(thing) != 2:
        return False
    if not is_whole(thing[0]) or not is_whole(thing[1]):
        return False
    return thing[1] >= 1 and common_divisor(thing[0], thing[1]) == 1


def reduced(upper, lower):
    # lower is not nought; below nought it may be, for so a division by such a fraction comes here.
    divisor = common_divisor(upper, lower)
    if lower < 0:
        divisor = -divisor
    return (upper // divisor, lower // divisor)


def plus(first, second):
    return reduced(first[0] * second[1] + second[0] * first[1], first[1] * second[1])


def minus(first, second):
    return reduced(first[0] * second[1] - second[0] * first[1], first[1] * second[1])


def times(first, second):
    return reduced(first[0] * second[0], first[1] * second[1])


def divided(first, second):
    # second is not nought.
    return reduced(first[0] * second[1], first[1] * second[0])


def is_less(first, second):
    # Both lower numbers are above nought, so this does not turn round.
    return first[0] * second[1] < second[0] * first[1]


def total(fractions):
    together = NOUGHT
    for fraction in fractions:
        together = plus(together, fraction)
    return together


def cleared(row, chosen, place, before):
    return [(chosen[place] * row[column] - row[place] * chosen[column]) // before for column in range(len(row))]


def solved(matrix, sides):
    # Whole numbers up to the end, since reducing at each step is slow; a division by the pivot before leaves no rest.
    # No rows are swapped: a matrix handed in here tells what leaves some rooms that are all left for good at last,
    # and in such a one no pivot is nought.
    rows = [matrix[place] + [sides[place]] for place in range(len(sides))]
    before = 1
    for place in range(len(sides)):
        chosen = rows[place]
        others = [cleared(row, chosen, place, before) for row in rows]
        others[place] = chosen
        rows = others
        before = chosen[place]
    return [reduced(row[-1], before) for row in rows]
