"""Built nets: the joiner, the nets of halves and of mirrors, the cross and the tree."""

from turnfork.errors import TooGreat
from turnfork.nets import is_whole

WIDTHS = (1, 2, 4, 8, 16)


def refuse_but(width, widths):
    """Refuses a width that is none of these."""
    if not is_whole(width) or width not in widths:
        raise TooGreat(f"a net of this kind has one of the widths {widths}")


def by_turns(one, other):
    """The things of two tuples of one length in turn, the first one's first."""
    return tuple([thing for pair in zip(one, other) for thing in pair])


def cut_in_half(wires):
    """The first half of a row of wires and the second one."""
    half = len(wires) // 2
    return wires[:half], wires[half:]


def joined(first, second):
    """The switches that join two rows of wires, and the row behind them."""
    if len(first) == 1:
        row = first + second
        return (row,), row
    ahead, c = joined(first[::2], second[1::2])
    later, d = joined(first[1::2], second[::2])
    return ahead + later + tuple(zip(c, d)), by_turns(c, d)


def joiner(width):
    """The net that joins the first half of the wires with the second half."""
    refuse_but(width, WIDTHS[1:])
    first, second = cut_in_half(tuple(range(width)))
    switches, order = joined(first, second)
    return (width, switches, order)


def halves_of(wires):
    """The switches and the order of the net of halves of a row of wires."""
    if len(wires) == 1:
        return (), wires
    first, second = cut_in_half(wires)
    ahead, one = halves_of(first)
    later, other = halves_of(second)
    joining, order = joined(one, other)
    return ahead + later + joining, order


def halves(width):
    """The net of halves."""
    refuse_but(width, WIDTHS)
    switches, order = halves_of(tuple(range(width)))
    return (width, switches, order)


def mirror_block(width):
    """The switches of one block of the net of mirrors."""
    switches = []
    size = width
    while size > 1:
        for start in range(0, width, size):
            switches.extend([(start + i, start + size - 1 - i) for i in range(size // 2)])
        size //= 2
    return tuple(switches)


def mirrors(width):
    """The net of mirrors: as many blocks as the width can be halved."""
    refuse_but(width, WIDTHS)
    return (width, mirror_block(width) * WIDTHS.index(width), tuple(range(width)))


def cross_of(wires):
    """The switches of the cross of a row of wires."""
    if len(wires) == 1:
        return ()
    first, second = cut_in_half(wires)
    return cross_of(first) + cross_of(second) + tuple(zip(first, second))


def cross(width):
    """The cross: the one of each half, then the wires of one half with those of the other."""
    refuse_but(width, WIDTHS)
    wires = tuple(range(width))
    return (width, cross_of(wires), wires)


def tree_of(wires):
    """The switches and the order of the tree of a row of wires."""
    if len(wires) == 1:
        return (), wires
    first, second = cut_in_half(wires)
    ahead, one = tree_of(first)
    later, other = tree_of(second)
    return ((first[0], second[0]),) + ahead + later, by_turns(one, other)


def tree(width):
    """The tree: it counts what comes on its first wire."""
    refuse_but(width, WIDTHS)
    switches, order = tree_of(tuple(range(width)))
    return (width, switches, order)
