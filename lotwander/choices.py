"""Choices: the walk by the ways that are picked, and the most and the least that choosing can do for goals."""

from lotwander.coming import chances
from lotwander.errors import NoChoice, NoPicks
from lotwander.fracs import is_less, is_whole, times, total
from lotwander.walks import checked_rooms, is_spread

MOST_ROOMS = 6
MOST_WAYS = 4


def is_ways(thing, count):
    if not isinstance(thing, tuple) or not 1 <= len(thing) <= MOST_WAYS:
        return False
    return all([is_spread(way, count) for way in thing])


def is_choice(thing):
    if not isinstance(thing, tuple) or not 1 <= len(thing) <= MOST_ROOMS:
        return False
    return all([is_ways(ways, len(thing)) for ways in thing])


def checked_choice(choice):
    if not is_choice(choice):
        raise NoChoice("this is no choice")
    return choice


def is_pick(thing, ways):
    return is_whole(thing) and 0 <= thing < len(ways)


def is_picks(thing, choice):
    if not isinstance(thing, list) or len(thing) != len(choice):
        return False
    return all([is_pick(pick, ways) for pick, ways in zip(thing, choice)])


def picked(choice, picks):
    checked_choice(choice)
    if not is_picks(picks, choice):
        raise NoPicks("these are no picks of the choice's ways")
    return tuple([ways[pick] for pick, ways in zip(picks, choice)])


def leads_within(way, rooms):
    return all([room in rooms for room, share in way])


def pick_within(ways, rooms):
    for pick, way in enumerate(ways):
        if leads_within(way, rooms):
            return pick
    return None


def average(way, values):
    return total([times(share, values[room]) for room, share in way])


def is_more(first, second):
    return is_less(second, first)


def better_pick(ways, pick, held, values, is_better):
    # The pick stays unless another way is truly better: one that only looks as good may lead round for ever.
    best = pick
    reached = held
    for other, way in enumerate(ways):
        found = average(way, values)
        if is_better(found, reached):
            best = other
            reached = found
    return best


def better_picks(choice, goals, picks, values, is_better):
    # In goals nothing is left to choose: they are come to whatever is picked there.
    told = list(picks)
    for room, ways in enumerate(choice):
        if room not in goals:
            told[room] = better_pick(ways, picks[room], values[room], values, is_better)
    return told


def best_from(choice, goals, first_picks, is_better):
    # Each turn makes some room better and none worse, so no picks come twice and there is an end.
    picks = first_picks
    values = chances(picked(choice, picks), goals)
    others = better_picks(choice, goals, picks, values, is_better)
    while others != picks:
        picks = others
        values = chances(picked(choice, picks), goals)
        others = better_picks(choice, goals, picks, values, is_better)
    return (values, picks)


def most(choice, goals):
    checked_choice(choice)
    checked_rooms(goals, len(choice))
    return best_from(choice, goals, [0] * len(choice), is_more)


def rooms_kept_away(choice, goals):
    # The rooms from which choosing can keep away from goals for good: those left when none must lead elsewhere.
    before = []
    rooms = [room for room in range(len(choice)) if room not in goals]
    while rooms != before:
        before = rooms
        rooms = [room for room in before if pick_within(choice[room], before) is not None]
    return rooms


def least(choice, goals):
    checked_choice(choice)
    checked_rooms(goals, len(choice))
    # Turns alone would not find the ways there: one that leads round for ever looks no better than the pick it mends.
    rooms = rooms_kept_away(choice, goals)
    first_picks = [pick_within(ways, rooms) if room in rooms else 0 for room, ways in enumerate(choice)]
    return best_from(choice, goals, first_picks, is_less)
