"""Papers: what shows that a net counts, by nets that count and nets that join them."""

from turnfork.built import halves
from turnfork.counts import even_of, is_even, put_through
from turnfork.errors import TooGreat
from turnfork.judged import is_small, judged
from turnfork.nets import depth, is_order, is_whole
from turnfork.together import named

MOST_WIRES_SHOWN = 8
MOST_LAYERS_JOINING = 4
SMALL = ("small",)
HALVES = "halves"


def refuse_wide(net):
    """Refuses a net of too many wires for a paper."""
    if net[0] > MOST_WIRES_SHOWN:
        raise TooGreat(f"{net[0]} wires are more than {MOST_WIRES_SHOWN}")


def on_rows(left, right, one, other):
    """Even counts of the sum one on the row left and of the sum other on right: a tuple."""
    half = len(left)
    counts = [0] * (2 * half)
    for wire, count in zip(left + right, even_of(half, one) + even_of(half, other)):
        counts[wire] = count
    return tuple(counts)


def joins(net, left, right):
    """Whether the ends are even whatever even counts come on the rows left and right."""
    refuse_wide(net)
    deep = depth(net)
    if deep > MOST_LAYERS_JOINING:
        raise TooGreat(f"{deep} layers are more than {MOST_LAYERS_JOINING}")
    # So many tokens more on one row are 2 ** depth more on each of its wires, and put a
    # fixed share more to each end. As where nets are judged, twice as many on one row alone
    # show whether these shares are alike, and lesser sums show all else.
    period = len(left) << deep
    sums = [(2 * period, 0), (0, 2 * period)]
    sums.extend([(one, other) for one in range(period) for other in range(period)])
    return all(is_even(put_through(net, on_rows(left, right, one, other))) for one, other in sums)


def are_rows(net, left, right):
    """Whether two things are tuples of one length in which each wire of a net stands once."""
    if not isinstance(left, tuple) or not isinstance(right, tuple):
        return False
    return len(left) == len(right) and is_order(left + right, net[0])


def parts_rows(switches, left):
    """Whether each of these switches has both wires in the row left, or none."""
    return all((a in left) == (b in left) for a, b in switches)


def net_of_row(switches, row):
    """The net of those of these switches that lie within a row of wires."""
    within = tuple([switch for switch in switches if switch[0] in row])
    places = {wire: place for place, wire in enumerate(sorted(row))}
    new_switches, order = named((len(row), within, row), places)
    return (len(row), new_switches, order)


def shows_by_small(net):
    """Whether a net is small and counts."""
    return is_small(net) and judged(net) == ("counts",)


def shows_by_halves(net, parts):
    """Whether the five parts of a paper behind its word are as they must be for a net."""
    cut, left, right, one, other = parts
    width, switches, order = net
    if not is_whole(cut) or not 0 <= cut <= len(switches) or not are_rows(net, left, right):
        return False
    ahead = switches[:cut]
    later = (width, switches[cut:], order)
    if not parts_rows(ahead, left) or depth(later) > MOST_LAYERS_JOINING:
        return False
    # Each row has half as many wires, so papers within papers soon come to an end.
    if not is_paper(net_of_row(ahead, left), one) or not is_paper(net_of_row(ahead, right), other):
        return False
    return joins(later, left, right)


def is_paper(net, thing):
    """Whether any thing is a paper for a net of at most eight wires."""
    refuse_wide(net)
    if not isinstance(thing, tuple):
        return False
    if thing == SMALL:
        return shows_by_small(net)
    return len(thing) == 6 and thing[0] == HALVES and shows_by_halves(net, thing[1:])


def paper_of(width):
    """A paper for the net of halves of 1, 2, 4 or 8 wires."""
    net = halves(width)
    refuse_wide(net)
    if is_small(net):
        return SMALL
    half = width // 2
    switches, order = halves(half)[1:]
    right = tuple([wire + half for wire in order])
    return (HALVES, 2 * len(switches), order, right, paper_of(half), paper_of(half))
