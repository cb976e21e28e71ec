"""The long run: in which rooms the walker stays for good, by which shares, and with which beat."""

from lotwander.coming import chances, leaving_weight
from lotwander.fracs import NOUGHT, ONE, common_divisor, divided, solved, times, total
from lotwander.walks import checked, checked_room, rooms_from, steps_to_rooms, weight_rows


def is_end(walk, rooms):
    return all([rooms_from(walk, room) == rooms for room in rooms])


def ends(walk):
    checked(walk)
    told = []
    for room in range(len(walk)):
        rooms = rooms_from(walk, room)
        # An end is found from each of its rooms, but told from its first alone.
        if rooms[0] == room and is_end(walk, rooms):
            told.append(rooms)
    return told


def arriving_row(rows, room, rooms):
    return [leaving_weight(rows, other, room) for other in rooms]


def shares_within(walk, rooms):
    # The first room is given 1 and the others are reckoned from it, since the equations of all the rooms
    # of an end do not tell how much they are together; that is set right behind it.
    rows = weight_rows(walk)
    others = rooms[1:]
    matrix = [arriving_row(rows, room, others) for room in others]
    parts = [ONE] + solved(matrix, [rows[rooms[0]][room] for room in others])
    together = total(parts)
    return [divided(part, together) for part in parts]


def long_run(walk, start):
    checked(walk)
    checked_room(start, len(walk))
    told = [NOUGHT] * len(walk)
    for rooms in ends(walk):
        chance = chances(walk, rooms)[start]
        for room, share in zip(rooms, shares_within(walk, rooms)):
            told[room] = times(chance, share)
    return told


def beat(walk, start):
    checked(walk)
    checked_room(start, len(walk))
    steps = steps_to_rooms(walk, start)
    rooms = sorted(steps)
    if not is_end(walk, rooms):
        return None
    # A step that does not fit the shortest ways closes a round that is longer or shorter by as much.
    divisor = 0
    for room in rooms:
        for target, share in walk[room]:
            divisor = common_divisor(divisor, steps[room] + 1 - steps[target])
    return divisor
