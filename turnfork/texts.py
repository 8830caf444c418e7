"""Texts: how a net is written and read."""

from turnfork.errors import NoText
from turnfork.nets import MOST_SWITCHES, MOST_WIRES

COLON = ":"


def net_text(net):
    """A net as a text: its width, its switches a-b, a colon, and the wire of each end."""
    width, switches, order = net
    words = [str(width)]
    words.extend([f"{a}-{b}" for a, b in switches])
    words.append(COLON)
    words.extend([str(wire) for wire in order])
    return " ".join(words)


def spelled(numbers):
    """The numbers by the words that say them, so that no other word is taken for one."""
    return {str(number): number for number in numbers}


def read_switch(word, wires):
    """The switch that a word tells, None where it tells none."""
    a, dash, b = word.partition("-")
    if a not in wires or b not in wires or a == b:
        return None
    return (wires[a], wires[b])


def read_switches(words, wires):
    """The switches that are told from word 1 on, up to the first word that can be none."""
    switches = []
    for word in words[1:MOST_SWITCHES + 1]:
        switch = read_switch(word, wires)
        if switch is None:
            return tuple(switches)
        switches.append(switch)
    return tuple(switches)


def read_order(words, first, wires):
    """The order told from the word of number first on, to the last one."""
    order = []
    for place in range(first, first + len(wires)):
        if place == len(words) or words[place] not in wires or wires[words[place]] in order:
            raise NoText(place)
        order.append(wires[words[place]])
    if len(words) > first + len(wires):
        raise NoText(first + len(wires))
    return tuple(order)


def read_net(text):
    """The net that a text tells."""
    words = text.split(" ")
    widths = spelled(list(range(1, MOST_WIRES + 1)))
    if words[0] not in widths:
        raise NoText(0)
    width = widths[words[0]]
    wires = spelled(list(range(width)))
    switches = read_switches(words, wires)
    colon = len(switches) + 1
    if colon == len(words) or words[colon] != COLON:
        raise NoText(colon)
    return (width, switches, read_order(words, colon + 1, wires))
