"""Counts of tokens: put through a net, and how even they are."""


def turns_at_first(net):
    """The turn 0 for each switch of a net."""
    return (0,) * len(net[1])


def sent(net, turns, counts):
    """The counts on the wires behind all switches, and what passes each switch: two lists."""
    on_wires = list(counts)
    at_switches = []
    for (a, b), turn in zip(net[1], turns):
        both = on_wires[a] + on_wires[b]
        first, second = (b, a) if turn == 1 else (a, b)
        on_wires[first] = both - both // 2
        on_wires[second] = both // 2
        at_switches.append(both)
    return on_wires, at_switches


def put_from(net, turns, counts):
    """The counts at the ends and the turns behind, where the switches begin with these turns."""
    on_wires, at_switches = sent(net, turns, counts)
    at_ends = tuple([on_wires[wire] for wire in net[2]])
    behind = tuple([(turn + both) % 2 for turn, both in zip(turns, at_switches)])
    return at_ends, behind


def put_through(net, counts):
    """The counts at the ends, a tuple, end by end."""
    return put_from(net, turns_at_first(net), counts)[0]


def passed(net, counts):
    """How many tokens pass each switch: a list."""
    return sent(net, turns_at_first(net), counts)[1]


def spread(counts):
    """The greatest of counts less the least, 0 where there are none."""
    return max(counts, default=0) - min(counts, default=0)


def is_falling(row):
    """Whether nothing in a row is less than the one behind it."""
    return all([one >= other for one, other in zip(row, row[1:])])


def is_even(counts):
    """Whether counts at the ends are as even as can be, the greater ones first."""
    # Where counts fall, the first less the last is their spread.
    return is_falling(counts) and spread(counts) <= 1


def even_of(width, total):
    """The one tuple of even counts of this width and this sum."""
    # The tokens are dealt to the ends in turn, so end e has one more as soon
    # as the total is beyond a whole number of rounds by more than e.
    return tuple([(total - end + width - 1) // width for end in range(width)])
