"""Coming: how likely goals are ever come to, and how many steps that takes."""

from lotwander.fracs import NOUGHT, ONE, solved
from lotwander.walks import checked, checked_rooms, rooms_from, weight_rows


def can_come(walk, room, goals):
    return any([other in goals for other in rooms_from(walk, room)])


def leaving_weight(rows, room, other):
    # What leaves a room stands against what comes from others: so the rows of equations are made.
    if room == other:
        return sum(rows[room]) - rows[room][other]
    return -rows[room][other]


def leaving_row(rows, room, rooms):
    return [leaving_weight(rows, room, other) for other in rooms]


def weight_into(row, rooms):
    return sum([row[room] for room in rooms])


def solved_for(rows, rooms, sides):
    return solved([leaving_row(rows, room, rooms) for room in rooms], sides)


def chances(walk, goals):
    checked(walk)
    checked_rooms(goals, len(walk))
    rows = weight_rows(walk)
    # Rooms that cannot come to a goal stay out of the equations, which would not tell what holds for them.
    rooms = [room for room in range(len(walk)) if room not in goals and can_come(walk, room, goals)]
    sides = [weight_into(rows[room], goals) for room in rooms]
    told = [ONE if room in goals else NOUGHT for room in range(len(walk))]
    for room, chance in zip(rooms, solved_for(rows, rooms, sides)):
        told[room] = chance
    return told


def waits(walk, goals):
    likely = chances(walk, goals)
    rows = weight_rows(walk)
    # From a room with chance 1 that is no goal all ways lead to such rooms, or to goals.
    rooms = [room for room in range(len(walk)) if room not in goals and likely[room] == ONE]
    sides = [sum(rows[room]) for room in rooms]
    told = [NOUGHT if room in goals else None for room in range(len(walk))]
    for room, wait in zip(rooms, solved_for(rows, rooms, sides)):
        told[room] = wait
    return told
