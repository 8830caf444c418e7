"""Weavings: rows of events, tokens that come and go in any order."""

from turnfork.errors import NoEvent, NoToken, NoWire
from turnfork.hall import Hall


def done(hall, place, event):
    """What a hall tells of the event at a place."""
    kind, number = event
    try:
        if kind == "come":
            return hall.come(number)
        if kind == "back":
            return hall.back(number)
        if kind == "go":
            return hall.go(number)
    except (NoWire, NoToken):
        raise NoEvent(place) from None
    raise NoEvent(place)


def done_all(hall, events):
    """What a hall tells of each event: a list."""
    return [done(hall, place, event) for place, event in enumerate(events)]


def woven(net, events):
    """What is told for each event: a token's number, ("switch", s, wire) or ("end", e, number)."""
    return done_all(Hall(net), events)


def stand_behind(net, events):
    """The stand (turns, within, counts) behind events: a tuple of three lists."""
    hall = Hall(net)
    done_all(hall, events)
    return hall.stand()
