"""Nets for the tests, made from fixed seeds, and tokens sent through them one by one."""

import random
import unittest


class Refusing(unittest.TestCase):
    def refused(self, error, ask, *given):
        """The refusal, which is of this class alone."""
        with self.assertRaises(error) as caught:
            ask(*given)
        self.assertIs(type(caught.exception), error)
        return caught.exception


def in_order(width):
    return tuple(range(width))


def bare(width):
    return (width, (), in_order(width))


def pairs(width, many):
    """Many switches, over all pairs of wires again and again."""
    every = [(a, b) for a in range(width) for b in range(width) if a != b]
    return tuple(every[k % len(every)] for k in range(many))


def some_net(chance, width, many):
    switches = tuple(tuple(chance.sample(range(width), 2)) for k in range(many)) if width > 1 else ()
    order = list(range(width))
    chance.shuffle(order)
    return (width, switches, tuple(order))


def some_nets(seed=5, each=4):
    """Nets of all widths, some without switches, with orders that are not those of the wires."""
    chance = random.Random(seed)
    nets = []
    for width in range(1, 17):
        nets.append(bare(width))
        for k in range(each):
            nets.append(some_net(chance, width, chance.randrange(0, 4 * width)))
    nets.append(some_net(chance, 16, 160))
    return nets


def some_counts(chance, width, low=-9, high=9):
    return tuple(chance.randint(low, high) for k in range(width))


def some_turns(chance, net):
    return tuple(chance.randrange(2) for k in net[1])


def one_by_one(net, turns, counts):
    """Counts at the ends, turns behind and what passed each switch, told by single tokens."""
    width, switches, order = net
    turns = list(turns)
    through = [0] * len(switches)
    on_wires = [0] * width
    for wire in range(width):
        for token in range(counts[wire]):
            at = wire
            for k, switch in enumerate(switches):
                if at in switch:
                    at = switch[turns[k]]
                    turns[k] = 1 - turns[k]
                    through[k] += 1
            on_wires[at] += 1
    return tuple(on_wires[wire] for wire in order), tuple(turns), through


def kinds(thing):
    """What a thing is made of, so that 1 and True, a tuple and a list, are told apart."""
    if type(thing) in (tuple, list):
        return (type(thing).__name__, [kinds(part) for part in thing])
    return (type(thing).__name__, thing)


class Crowd:
    """Tokens in a net, event by event, each of which keeps the whole way that it went.

    An event that is none is refused with LookupError.
    """

    def __init__(self, net):
        self.width, self.switches, self.order = net
        self.turns = [0 for switch in self.switches]
        self.ends = {end: 0 for end in range(self.width)}
        self.kinds = []
        self.ways = []
        self.left = set()

    def within(self):
        return [token for token in range(len(self.kinds)) if token not in self.left]

    def ahead(self, token):
        """The switches that still lie on the wire of a token, as it stands."""
        wire, last = self.ways[token][-1]
        return [k for k, switch in enumerate(self.switches) if k > last and wire in switch]

    def do(self, event):
        word, number = event
        if word == "go":
            if number not in self.within():
                raise LookupError
            return self.through(number) if self.ahead(number) else self.out(number)
        if number not in range(self.width):
            raise LookupError
        self.kinds.append({"come": "plain", "back": "back"}[word])
        self.ways.append([(number, -1)])
        return len(self.kinds) - 1

    def through(self, token):
        k = self.ahead(token)[0]
        if self.kinds[token] == "plain":
            wire = self.switches[k][self.turns[k]]
            self.turns[k] = (self.turns[k] + 1) % 2
        else:
            self.turns[k] = (self.turns[k] + 1) % 2
            wire = self.switches[k][self.turns[k]]
        self.ways[token].append((wire, k))
        return ("switch", k, wire)

    def out(self, token):
        end = [e for e, wire in enumerate(self.order) if wire == self.ways[token][-1][0]][0]
        c = self.ends[end]
        c_behind = c + 1 if self.kinds[token] == "plain" else c - 1
        self.ends[end] = c_behind
        self.left.add(token)
        return ("end", end, end + self.width * (c if self.kinds[token] == "plain" else c_behind))

    def stand(self):
        within = []
        for token in self.within():
            after = self.ahead(token)
            within.append((token, self.kinds[token], self.ways[token][-1][0], after[0] if after else None))
        return (list(self.turns), within, [self.ends[end] for end in range(self.width)])

    def numbers(self):
        return sorted(end + self.width * j for end in self.ends for j in range(max(self.ends[end], 0)))


def some_events(chance, net, many, words=("come", "back")):
    """Events of a net, as many as are asked for, with tokens left within."""
    crowd = Crowd(net)
    events = []
    for k in range(many):
        within = crowd.within()
        if within and chance.randrange(5) < 3:
            events.append(("go", chance.choice(within)))
        else:
            events.append((chance.choice(words), chance.randrange(net[0])))
        crowd.do(events[-1])
    return events


def some_weaving(chance, net, comings):
    """Events in which these tokens come, in any order, and go till none is within."""
    crowd = Crowd(net)
    coming = list(comings)
    chance.shuffle(coming)
    hurry = chance.randrange(1, 9)
    events = []
    while coming or crowd.within():
        within = crowd.within()
        if coming and (not within or chance.randrange(10) < hurry):
            events.append(coming.pop())
        else:
            events.append(("go", chance.choice(within)))
        crowd.do(events[-1])
    return events


def shuffled(chance, width):
    """All wires, in a drawn order."""
    wires = list(range(width))
    chance.shuffle(wires)
    return tuple(wires)


def dealt(width, total):
    """Counts, from 0 on, of tokens dealt to the ends one by one, in turn."""
    counts = [0] * width
    for token in range(total):
        counts[token % width] += 1
    return tuple(counts)


def stands_even(counts):
    """Whether counts are those of tokens dealt in turn, whole rounds left out."""
    left = [count - min(counts) for count in counts]
    return max(left) <= 1 and tuple(left) == dealt(len(left), sum(left))


def halvings(width):
    """How often a width can be halved."""
    return width.bit_length() - 1


def layered(chance, width, deep):
    """A net with so many layers, each as full as can be."""
    switches = ()
    for k in range(deep):
        wires = shuffled(chance, width)
        switches += tuple(zip(wires[0::2], wires[1::2]))
    return (width, switches, shuffled(chance, width))
