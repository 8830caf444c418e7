"""Nets for the tests, made from fixed seeds, and tokens sent through them one by one."""

import random


def in_order(width):
    return tuple(range(width))


def bare(width):
    return (width, (), in_order(width))


def pairs(width, many):
    """Many switches, over all pairs of wires again and again."""
    every = [(a, b) for a in range(width) for b in range(width) if a != b]
    return tuple(every[k % len(every)] for k in range(many))


def some_net(chance, width, many):
    switches = tuple(tuple(chance.sample(range(width), 2)) for k in range(many)) if width > 1 else ()
    order = list(range(width))
    chance.shuffle(order)
    return (width, switches, tuple(order))


def some_nets(seed=5, each=4):
    """Nets of all widths, some without switches, with orders that are not those of the wires."""
    chance = random.Random(seed)
    nets = []
    for width in range(1, 17):
        nets.append(bare(width))
        for k in range(each):
            nets.append(some_net(chance, width, chance.randrange(0, 4 * width)))
    nets.append(some_net(chance, 16, 160))
    return nets


def some_counts(chance, width, low=-9, high=9):
    return tuple(chance.randint(low, high) for k in range(width))


def some_turns(chance, net):
    return tuple(chance.randrange(2) for k in net[1])


def one_by_one(net, turns, counts):
    """Counts at the ends, turns behind and what passed each switch, told by single tokens."""
    width, switches, order = net
    turns = list(turns)
    through = [0] * len(switches)
    on_wires = [0] * width
    for wire in range(width):
        for token in range(counts[wire]):
            at = wire
            for k, switch in enumerate(switches):
                if at in switch:
                    at = switch[turns[k]]
                    turns[k] = 1 - turns[k]
                    through[k] += 1
            on_wires[at] += 1
    return tuple(on_wires[wire] for wire in order), tuple(turns), through


def kinds(thing):
    """What a thing is made of, so that 1 and True, a tuple and a list, are told apart."""
    if type(thing) in (tuple, list):
        return (type(thing).__name__, [kinds(part) for part in thing])
    return (type(thing).__name__, thing)
