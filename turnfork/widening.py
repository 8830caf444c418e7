"""A tree that widens and narrows while tokens are within it."""

from turnfork.errors import NoFork, NoLeaf, NoToken
from turnfork.nets import is_whole

MOST_SIGNS = 9


class Tree:
    """Forks that take turns over leaves that give numbers."""

    def __init__(self):
        # Each knot is either a fork, with its turn, or a leaf, with its next number and its step.
        self.turns = {}
        self.steps = {"": (0, 1)}
        self.tokens = {}
        self.came = 0

    def come(self):
        """A token comes and stands at the topmost knot: its number."""
        token = self.came
        self.came += 1
        self.tokens[token] = ""
        return token

    def go(self, token):
        """A token goes on: ("fork", name) or, as it leaves, ("leaf", name, number)."""
        if not is_whole(token) or token not in self.tokens:
            raise NoToken("no such token is within")
        if self.tokens[token] in self.turns:
            return self.pass_fork(token)
        return self.take_number(token)

    def pass_fork(self, token):
        """A token goes from a fork to the knot below whose turn it is."""
        name = self.tokens[token]
        turn = self.turns[name]
        self.turns[name] = 1 - turn
        below = name + str(turn)
        self.tokens[token] = below
        return ("fork", below)

    def take_number(self, token):
        """A token takes a leaf's next number and leaves."""
        name = self.tokens[token]
        number, step = self.steps[name]
        self.steps[name] = (number + step, step)
        del self.tokens[token]
        return ("leaf", name, number)

    def widen(self, name):
        """A leaf becomes a fork over two leaves that share its numbers."""
        if name not in self.steps or len(name) > MOST_SIGNS:
            raise NoLeaf("no leaf that can be widened has this name")
        number, step = self.steps[name]
        del self.steps[name]
        self.turns[name] = 0
        self.steps[name + "0"] = (number, 2 * step)
        self.steps[name + "1"] = (number + step, 2 * step)

    def narrow(self, name):
        """A fork over two leaves at which no token stands becomes a leaf again."""
        # Only a fork has knots below it.
        if not self.is_free(name + "0") or not self.is_free(name + "1"):
            raise NoFork("no fork that can be narrowed has this name")
        first, step = self.steps[name + "0"]
        second = self.steps[name + "1"][0]
        del self.turns[name], self.steps[name + "0"], self.steps[name + "1"]
        self.steps[name] = (min(first, second), step // 2)

    def is_free(self, name):
        """Whether a knot is a leaf at which no token stands."""
        return name in self.steps and name not in list(self.tokens.values())

    def leaves(self):
        """The leaves: a rising list of (name, next number, step)."""
        return sorted([(name, number, step) for name, (number, step) in self.steps.items()])

    def within(self):
        """The tokens within: a rising list of (token, name of its knot)."""
        return sorted(self.tokens.items())
