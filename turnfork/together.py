"""Nets put together: beside and behind one another, and with other names for their wires."""

from turnfork.errors import TooGreat
from turnfork.nets import MOST_SWITCHES, MOST_WIRES


def fitting(width, switches, order):
    """The net of these, where it is none too great."""
    if width > MOST_WIRES:
        raise TooGreat(f"{width} wires are more than {MOST_WIRES}")
    if len(switches) > MOST_SWITCHES:
        raise TooGreat(f"{len(switches)} switches are more than {MOST_SWITCHES}")
    return (width, switches, order)


def named(net, wires):
    """The switches and the order of a net whose wire w becomes wires[w]."""
    width, switches, order = net
    new_switches = tuple([(wires[a], wires[b]) for a, b in switches])
    new_order = tuple([wires[wire] for wire in order])
    return new_switches, new_order


def beside(one, other):
    """Two nets side by side, the second one's wires and ends behind the first one's."""
    width = one[0] + other[0]
    switches, order = named(other, tuple(range(one[0], width)))
    return fitting(width, one[1] + switches, one[2] + order)


def behind(one, other):
    """Two nets of one width, end i of the first leading to wire i of the second."""
    switches, order = named(other, one[2])
    return fitting(one[0], one[1] + switches, order)


def renamed(net, wires):
    """The net whose wire w becomes the one at place w of a tuple of all wires."""
    switches, order = named(net, wires)
    return fitting(net[0], switches, order)
