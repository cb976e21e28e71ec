"""Like rooms: which ones may be put together, and the walk that is put together from them."""

from lotwander.errors import NoMarks
from lotwander.fracs import is_whole, total
from lotwander.walks import checked


def is_marks(thing, count):
    if not isinstance(thing, list) or len(thing) != count:
        return False
    return all([is_whole(mark) for mark in thing])


def checked_marks(marks, count):
    if not is_marks(marks, count):
        raise NoMarks("these are no marks of the walk's rooms")
    return marks


def first_places(things):
    return [things.index(thing) for thing in things]


def share_into(spread, alike, least):
    return total([share for room, share in spread if alike[room] == least])


def shares_into_all(spread, alike):
    return [share_into(spread, alike, least) for least in range(len(alike))]


def likeness(walk, marks):
    checked(walk)
    checked_marks(marks, len(walk))
    # Rooms are parted only where they must be, turn by turn until none is; so what is left is the widest likeness.
    before = []
    alike = first_places(marks)
    while alike != before:
        before = alike
        alike = first_places([(before[room], shares_into_all(walk[room], before)) for room in range(len(walk))])
    return alike


def spread_between(spread, alike, rooms):
    shares = [share_into(spread, alike, least) for least in rooms]
    return tuple([(room, share) for room, share in enumerate(shares) if share[0] > 0])


def put_together(walk, marks):
    alike = likeness(walk, marks)
    rooms = sorted(set(alike))
    return tuple([spread_between(walk[room], alike, rooms) for room in rooms])
