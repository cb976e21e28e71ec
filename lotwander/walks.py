"""Walks: what is one, and where the walker is behind a number of steps."""

from lotwander.errors import NoRooms, NoWalk
from lotwander.fracs import ONE, common_divisor, common_multiple, is_fraction, is_whole, reduced, total

MOST_ROOMS = 8


def is_room(thing, count):
    return is_whole(thing) and 0 <= thing < count


def is_pair(thing, count):
    if not isinstance(thing, tuple) or len(thing) != 2:
        return False
    return is_room(thing[0], count) and is_fraction(thing[1]) and thing[1][0] > 0


def is_spread(thing, count):
    if not isinstance(thing, tuple):
        return False
    last = -1
    shares = []
    for pair in thing:
        if not is_pair(pair, count) or pair[0] <= last:
            return False
        last = pair[0]
        shares.append(pair[1])
    return total(shares) == ONE


def is_walk(thing):
    if not isinstance(thing, tuple) or not 1 <= len(thing) <= MOST_ROOMS:
        return False
    return all([is_spread(spread, len(thing)) for spread in thing])


def checked(walk):
    if not is_walk(walk):
        raise NoWalk("this is no walk")
    return walk


def checked_room(room, count):
    if not is_room(room, count):
        raise NoRooms("this is no room of the walk")
    return room


def is_some_rooms(thing, count):
    if not isinstance(thing, list):
        return False
    last = -1
    for room in thing:
        if not is_room(room, count) or room <= last:
            return False
        last = room
    return True


def checked_rooms(rooms, count):
    if not is_some_rooms(rooms, count):
        raise NoRooms("these are not some rooms of the walk")
    return rooms


def steps_to_rooms(walk, start):
    # For each room that can be come to from the start, the length of a shortest way there.
    steps = {start: 0}
    found = [start]
    place = 0
    while place < len(found):
        room = found[place]
        for target, share in walk[room]:
            if target not in steps:
                steps[target] = steps[room] + 1
                found.append(target)
        place = place + 1
    return steps


def rooms_from(walk, start):
    return sorted(steps_to_rooms(walk, start))


def lower_for_all(walk):
    lower = 1
    for spread in walk:
        for pair in spread:
            lower = common_multiple(lower, pair[1][1])
    return lower


def weight_row(spread, count, lower):
    row = [0] * count
    for room, share in spread:
        row[room] = share[0] * (lower // share[1])
    return row


def weight_rows(walk):
    # Whole numbers in the place of fractions: all rows have the same sum, and the share is the weight by that sum.
    lower = lower_for_all(walk)
    return [weight_row(spread, len(walk), lower) for spread in walk]


def moved_into(target, weights, rows):
    return sum([weights[source] * rows[source][target] for source in range(len(rows))])


def moved(weights, rows):
    return [moved_into(target, weights, rows) for target in range(len(rows))]


def divisor_of_all(rows):
    divisor = 0
    for row in rows:
        for weight in row:
            divisor = common_divisor(divisor, weight)
    return divisor


def divided_row(row, divisor):
    return [weight // divisor for weight in row]


def doubled(rows):
    # The rows for twice as many steps; one divisor for all of them, or their sums would differ.
    longer = [moved(row, rows) for row in rows]
    divisor = divisor_of_all(longer)
    return [divided_row(row, divisor) for row in longer]


def after(walk, start, steps):
    checked(walk)
    checked_room(start, len(walk))
    weights = [0] * len(walk)
    weights[start] = 1
    rows = weight_rows(walk)
    left = steps
    # By doubling, very many steps are soon gone where the shares stay small.
    while left > 0:
        if left % 2 == 1:
            weights = moved(weights, rows)
        left = left // 2
        if left > 0:
            rows = doubled(rows)
    return [reduced(weight, sum(weights)) for weight in weights]
