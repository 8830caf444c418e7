"""A hall: tokens that come to a net and go through it one event at a time."""

from turnfork.counts import turns_at_first
from turnfork.errors import NoToken, NoWire
from turnfork.nets import is_whole, is_wire

PLAIN = "plain"
BACK = "back"


def next_switch(net, wire, first):
    """The first switch on a wire from the switch of number first on, None where there is none."""
    switches = net[1]
    for number in range(first, len(switches)):
        if wire in switches[number]:
            return number
    return None


class Hall:
    """A net with tokens within it, its turns and the counts at its ends."""

    def __init__(self, net):
        self.net = net
        self.turns = list(turns_at_first(net))
        self.counts = [0] * net[0]
        # Each token within has (kind, wire, next switch). Tokens are put in as they come,
        # so the dict's own order is that of their numbers.
        self.tokens = {}
        self.came = 0

    def come(self, wire):
        """A plain token comes on a wire: its number."""
        return self.take_in(PLAIN, wire)

    def back(self, wire):
        """A token that takes back comes on a wire: its number."""
        return self.take_in(BACK, wire)

    def take_in(self, kind, wire):
        """A token of this kind comes on a wire: its number."""
        if not is_wire(wire, self.net[0]):
            raise NoWire(f"no such wire, there are {self.net[0]}")
        token = self.came
        self.came += 1
        self.tokens[token] = (kind, wire, next_switch(self.net, wire, 0))
        return token

    def go(self, token):
        """A token goes on: ("switch", s, wire) or, as it leaves, ("end", e, number)."""
        if not is_whole(token) or token not in self.tokens:
            raise NoToken("no such token is within")
        if self.tokens[token][2] is None:
            return self.leave(token)
        return self.pass_switch(token)

    def pass_switch(self, token):
        """A token passes its next switch, whose turn changes."""
        kind, wire, switch = self.tokens[token]
        turn_ahead = self.turns[switch]
        turn_behind = 1 - turn_ahead
        self.turns[switch] = turn_behind
        # What takes back goes where the last plain token went, so by the turn behind it.
        way = turn_behind if kind == BACK else turn_ahead
        wire_behind = self.net[1][switch][way]
        self.tokens[token] = (kind, wire_behind, next_switch(self.net, wire_behind, switch + 1))
        return ("switch", switch, wire_behind)

    def leave(self, token):
        """A token leaves at the end of its wire, with the number that it takes or gives back."""
        kind, wire, switch = self.tokens[token]
        width, switches, order = self.net
        end = order.index(wire)
        if kind == BACK:
            self.counts[end] -= 1
            number = end + width * self.counts[end]
        else:
            number = end + width * self.counts[end]
            self.counts[end] += 1
        del self.tokens[token]
        return ("end", end, number)

    def stand(self):
        """The stand (turns, within, counts): three lists."""
        within = [(token, kind, wire, switch) for token, (kind, wire, switch) in self.tokens.items()]
        return list(self.turns), within, list(self.counts)

    def numbers(self):
        """The numbers that stand at the ends: a rising list."""
        width = self.net[0]
        return sorted([end + width * j for end, count in enumerate(self.counts) for j in range(count)])

    def rest(self):
        """All go to their ends, those that came first ahead: a list of (token, end, number)."""
        waiting = list(self.tokens)
        return [self.go_to_end(token) for token in waiting]

    def go_to_end(self, token):
        """A token goes on till it leaves: (token, end, number)."""
        told = self.go(token)
        while told[0] != "end":
            told = self.go(token)
        return (token, told[1], told[2])
