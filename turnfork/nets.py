"""Nets of switches: what a net is, its layers, and where its wires lead."""

MOST_WIRES = 16
MOST_SWITCHES = 160


def is_whole(thing):
    """Whether a thing is a whole number: an int that is no truth."""
    return isinstance(thing, int) and not isinstance(thing, bool)


def is_wire(thing, width):
    """Whether a thing is the number of a wire of a net of this width."""
    return is_whole(thing) and 0 <= thing < width


def are_wires(thing, width):
    """Whether a thing is a tuple of wires, any number of them."""
    return isinstance(thing, tuple) and all(is_wire(part, width) for part in thing)


def is_switch(thing, width):
    """Whether a thing is a tuple of two unlike wires."""
    return are_wires(thing, width) and len(thing) == 2 and thing[0] != thing[1]


def are_switches(thing, width):
    """Whether a thing is a tuple of switches, not too many."""
    if not isinstance(thing, tuple) or len(thing) > MOST_SWITCHES:
        return False
    return all(is_switch(part, width) for part in thing)


def is_order(thing, width):
    """Whether a thing is a tuple of all wires, each once."""
    return are_wires(thing, width) and sorted(thing) == list(range(width))


def is_net(thing):
    """Whether any thing is a net, a tuple (width, switches, order)."""
    if not isinstance(thing, tuple) or len(thing) != 3:
        return False
    width, switches, order = thing
    if not is_whole(width) or not 1 <= width <= MOST_WIRES:
        return False
    return are_switches(switches, width) and is_order(order, width)


def layers(net):
    """The switches' numbers, layer by layer: a list of rising lists."""
    width, switches, order = net
    next_layer = [0] * width
    told = []
    for number, (a, b) in enumerate(switches):
        layer = max(next_layer[a], next_layer[b])
        if layer == len(told):
            told.append([])
        told[layer].append(number)
        next_layer[a] = layer + 1
        next_layer[b] = layer + 1
    return told


def depth(net):
    """How many layers a net has."""
    return len(layers(net))


def is_full(net):
    """Whether in each layer each wire has a switch."""
    # Switches of one layer share no wire, so counting them is enough.
    return all(2 * len(layer) == net[0] for layer in layers(net))


def ends_from(net, wire):
    """The ends to which tokens from a wire may come: a rising list."""
    width, switches, order = net
    reached = {wire: True}
    for a, b in switches:
        if a in reached or b in reached:
            reached[a] = True
            reached[b] = True
    return [end for end, at in enumerate(order) if at in reached]
