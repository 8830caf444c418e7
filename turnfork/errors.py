"""The refusals of turnfork, all right under ForkError."""


class ForkError(ValueError):
    """What turnfork refuses."""


class TooGreat(ForkError):
    """A net, a width or the like is beyond what is promised."""


class NoToken(ForkError):
    """No such token is within."""


class NoWire(ForkError):
    """The net has no such wire."""


class NoLeaf(ForkError):
    """No leaf that can be widened has this name."""


class NoFork(ForkError):
    """No fork that can be narrowed has this name."""


class NoLine(ForkError):
    """A desk does not understand this row, or not now."""


class NoEvent(ForkError):
    """Among events, the one at place is none."""

    def __init__(self, place):
        super().__init__(f"what stands at place {place} is no event")
        self.place = place


class NoText(ForkError):
    """A text is no net's, from the word of this number on."""

    def __init__(self, word):
        super().__init__(f"from word {word} on this is no net's text")
        self.word = word
