"""Seen: from marks that were seen, how likely they are, where the walker is, and by which way it most likely went."""

from lotwander.errors import NoBegin, NoMarks
from lotwander.fracs import ONE, is_fraction, reduced, total
from lotwander.like import checked_marks, is_marks
from lotwander.walks import checked, lower_for_all, moved, weight_row, weight_rows


def is_begin(thing, count):
    if not isinstance(thing, list) or len(thing) != count:
        return False
    if not all([is_fraction(share) and share[0] >= 0 for share in thing]):
        return False
    return total(thing) == ONE


def checked_begin(begin, count):
    if not is_begin(begin, count):
        raise NoBegin("this is no begin in the walk's rooms")
    return begin


def checked_seen(seen):
    if not isinstance(seen, list) or len(seen) == 0 or not is_marks(seen, len(seen)):
        raise NoMarks("this is no list of marks that were seen")
    return seen


def checked_all(walk, begin, marks, seen):
    checked(walk)
    checked_begin(begin, len(walk))
    checked_marks(marks, len(walk))
    checked_seen(seen)


def begin_weights(begin):
    pairs = list(enumerate(begin))
    return weight_row(pairs, len(begin), lower_for_all([pairs]))


def only_marked(weights, marks, mark):
    return [weights[room] if marks[room] == mark else 0 for room in range(len(weights))]


def weights_behind(walk, begin, marks, seen):
    rows = weight_rows(walk)
    weights = only_marked(begin_weights(begin), marks, seen[0])
    for mark in seen[1:]:
        weights = only_marked(moved(weights, rows), marks, mark)
    return weights


def chance_of(walk, begin, marks, seen):
    checked_all(walk, begin, marks, seen)
    # What the weights would come to if every mark would do: each step multiplies them by the sum of a row.
    whole = sum(begin_weights(begin))
    lower = lower_for_all(walk)
    for step in range(len(seen) - 1):
        whole = whole * lower
    return reduced(sum(weights_behind(walk, begin, marks, seen)), whole)


def where(walk, begin, marks, seen):
    checked_all(walk, begin, marks, seen)
    weights = weights_behind(walk, begin, marks, seen)
    whole = sum(weights)
    if whole == 0:
        return None
    return [reduced(weight, whole) for weight in weights]


def weights_on(row, rest):
    return [row[room] * rest[room] for room in range(len(rest))]


def first_greatest(weights):
    return weights.index(max(weights))


def likeliest(walk, begin, marks, seen):
    checked_all(walk, begin, marks, seen)
    rows = weight_rows(walk)
    # From the last mark back, so that of several ways the first in order is found from the first room on.
    rest = only_marked([1] * len(walk), marks, seen[-1])
    turns = []
    for mark in reversed(seen[:-1]):
        onward = [weights_on(row, rest) for row in rows]
        turns.append([first_greatest(weights) for weights in onward])
        rest = only_marked([max(weights) for weights in onward], marks, mark)
    weights = weights_on(begin_weights(begin), rest)
    if max(weights) == 0:
        return None
    way = [first_greatest(weights)]
    for turn in reversed(turns):
        way.append(turn[way[-1]])
    return way
