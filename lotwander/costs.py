"""Costs: the least that it costs, on the average, to come to goals for sure."""

from lotwander.choices import average, checked_choice, leads_within, most, picked
from lotwander.coming import solved_for
from lotwander.errors import NoCosts
from lotwander.fracs import NOUGHT, ONE, is_less, is_whole, plus
from lotwander.walks import checked_rooms, weight_rows


def is_cost(thing):
    return is_whole(thing) and thing >= 1


def is_room_costs(thing, ways):
    if not isinstance(thing, list) or len(thing) != len(ways):
        return False
    return all([is_cost(cost) for cost in thing])


def is_costs(thing, choice):
    if not isinstance(thing, list) or len(thing) != len(choice):
        return False
    return all([is_room_costs(room_costs, ways) for room_costs, ways in zip(thing, choice)])


def checked_costs(costs, choice):
    if not is_costs(costs, choice):
        raise NoCosts("these are no costs of the choice's ways")
    return costs


def costs_by_picks(choice, costs, picks, goals, rooms):
    # By the picks goals are come to from the rooms with chance 1, or the equations would not tell the costs.
    rows = weight_rows(picked(choice, picks))
    sides = [costs[room][picks[room]] * sum(rows[room]) for room in rooms]
    told = [NOUGHT if room in goals else None for room in range(len(choice))]
    for room, cost in zip(rooms, solved_for(rows, rooms, sides)):
        told[room] = cost
    return told


def cheaper_pick(ways, room_costs, pick, held, values):
    # A way to a room without a cost is not for sure to come to goals.
    sure = [room for room in range(len(values)) if values[room] is not None]
    best = pick
    reached = held
    for other, way in enumerate(ways):
        if leads_within(way, sure):
            found = plus((room_costs[other], 1), average(way, values))
            if is_less(found, reached):
                best = other
                reached = found
    return best


def cheaper_picks(choice, costs, picks, values, rooms):
    told = list(picks)
    for room in rooms:
        told[room] = cheaper_pick(choice[room], costs[room], picks[room], values[room], values)
    return told


def least_costs(choice, costs, goals):
    checked_choice(choice)
    checked_costs(costs, choice)
    checked_rooms(goals, len(choice))
    best = most(choice, goals)
    rooms = [room for room in range(len(choice)) if room not in goals and best[0][room] == ONE]
    picks = [best[1][room] if room in rooms else 0 for room in range(len(choice))]
    values = costs_by_picks(choice, costs, picks, goals, rooms)
    others = cheaper_picks(choice, costs, picks, values, rooms)
    # Each turn makes some room cheaper and none dearer; as each step costs something, goals are still come to.
    while others != picks:
        picks = others
        values = costs_by_picks(choice, costs, picks, goals, rooms)
        others = cheaper_picks(choice, costs, picks, values, rooms)
    return (values, picks)
