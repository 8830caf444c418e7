"""Judged nets: whether a small net counts, and whether a net sorts."""

from turnfork.counts import is_even, is_falling, put_through
from turnfork.errors import TooGreat
from turnfork.nets import depth

MOST_OF_SMALL = 12
MOST_SORTED = 10


def is_small(net):
    """Whether a net is small enough to be judged."""
    return net[0] * depth(net) <= MOST_OF_SMALL


def parts_of(number, bits, many):
    """A number cut into many numbers of so many bits each: a tuple."""
    return tuple([(number >> (bits * place)) % (1 << bits) for place in range(many)])


def on_one_wire(width, wire, count):
    """Counts with all tokens on one wire."""
    return tuple([count if at == wire else 0 for at in range(width)])


def judged(net):
    """("counts",), or ("off", counts) with counts whose ends aren't even, of a small net."""
    if not is_small(net):
        raise TooGreat(f"width times depth is more than {MOST_OF_SMALL}")
    width = net[0]
    bits = depth(net)
    # Each switch sends half of an even count either way, so 2 ** depth tokens more on one
    # wire put a fixed share more to each end. Where these shares are unlike, twice as many
    # tokens on that wire alone have a spread of 2 or more. Where they are alike for each
    # wire, they change nothing about evenness, and counts below 2 ** depth show all.
    for wire in range(width):
        counts = on_one_wire(width, wire, 2 << bits)
        if not is_even(put_through(net, counts)):
            return ("off", counts)
    for number in range(1 << (bits * width)):
        counts = parts_of(number, bits, width)
        if not is_even(put_through(net, counts)):
            return ("off", counts)
    return ("counts",)


def sorted_by(net, bits):
    """What stands at the ends where each switch (a, b) puts the greater one on a: a list."""
    on_wires = list(bits)
    for a, b in net[1]:
        if on_wires[a] < on_wires[b]:
            on_wires[a], on_wires[b] = on_wires[b], on_wires[a]
    return [on_wires[wire] for wire in net[2]]


def sorts(net):
    """("sorts",), or ("off", bits) with 0 and 1 that aren't sorted at the ends."""
    if net[0] > MOST_SORTED:
        raise TooGreat(f"{net[0]} wires are more than {MOST_SORTED}")
    for number in range(1 << net[0]):
        bits = parts_of(number, 1, net[0])
        if not is_falling(sorted_by(net, bits)):
            return ("off", bits)
    return ("sorts",)
