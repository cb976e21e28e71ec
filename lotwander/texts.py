"""Texts: a walk written as a text, and read back."""

from lotwander.errors import NoText
from lotwander.fracs import ONE
from lotwander.walks import checked, is_walk

FIGURES = "0123456789"
MOST_FIGURES = 30


def share_shown(share):
    if share == ONE:
        return "1"
    upper = share[0]
    lower = share[1]
    return f"{upper}/{lower}"


def pair_shown(pair):
    share = share_shown(pair[1])
    room = pair[0]
    return f"{share}>{room}"


def spread_shown(spread):
    return " ".join([pair_shown(pair) for pair in spread])


def shown(walk):
    checked(walk)
    return " ; ".join([spread_shown(spread) for spread in walk])


def number_read(text):
    if not 1 <= len(text) <= MOST_FIGURES or not all([sign in FIGURES for sign in text]):
        raise NoText("a number was looked for here")
    return int(text)


def share_read(text):
    parts = text.split("/")
    if len(parts) == 1:
        return (number_read(text), 1)
    if len(parts) != 2:
        raise NoText("a share was looked for here")
    return (number_read(parts[0]), number_read(parts[1]))


def pair_read(text):
    parts = text.split(">")
    if len(parts) != 2:
        raise NoText("a share and a room were looked for here")
    return (number_read(parts[1]), share_read(parts[0]))


def spread_read(text):
    return tuple([pair_read(part) for part in text.split(" ")])


def read(text):
    if not isinstance(text, str):
        raise NoText("this is no text")
    walk = tuple([spread_read(part) for part in text.split(" ; ")])
    # A walk may be guessed from other texts too, with a nought ahead or 1/1; but only one text is written for it.
    if not is_walk(walk) or shown(walk) != text:
        raise NoText("this text writes no walk")
    return walk
