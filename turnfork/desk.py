"""A desk: it is told rows of words and answers with texts."""

from turnfork.built import halves, mirrors
from turnfork.counts import is_even, put_through
from turnfork.errors import NoLine
from turnfork.hall import Hall
from turnfork.nets import depth
from turnfork.texts import read_net

FIGURES = "0123456789"
MOST_FIGURES = 9


def in_words(things):
    """Numbers and the like as a text, blanks between."""
    return " ".join([str(thing) for thing in things])


def tell_come(hall, numbers):
    return str(hall.come(numbers[0]))


def tell_back(hall, numbers):
    return str(hall.back(numbers[0]))


def tell_go(hall, numbers):
    return in_words(hall.go(numbers[0]))


def tell_rest(hall, numbers):
    return str(len(hall.rest()))


def tell_ends(hall, numbers):
    return in_words(hall.stand()[2])


def tell_turns(hall, numbers):
    turns = hall.stand()[0]
    return in_words(turns) if turns else "-"


def tell_within(hall, numbers):
    return str(len(hall.stand()[1]))


def tell_depth(hall, numbers):
    return str(depth(hall.net))


def tell_even(hall, numbers):
    return "yes" if is_even(hall.stand()[2]) else "no"


def tell_put(hall, numbers):
    return in_words(put_through(hall.net, tuple(numbers)))


ANSWERS = {
    "come": tell_come,
    "back": tell_back,
    "go": tell_go,
    "rest": tell_rest,
    "ends": tell_ends,
    "turns": tell_turns,
    "within": tell_within,
    "depth": tell_depth,
    "even": tell_even,
    "put": tell_put,
}

WITH_A_NUMBER = ("halves", "mirrors", "come", "back", "go")


def is_number(word):
    """Whether a word is a number of one to nine figures without a 0 ahead but in 0 itself."""
    if not 1 <= len(word) <= MOST_FIGURES or not all(sign in FIGURES for sign in word):
        return False
    return word == "0" or word[0] != "0"


def is_signed(word):
    """Whether a word is a number, perhaps with a - ahead of one that isn't 0."""
    return is_number(word.removeprefix("-")) and word != "-0"


def is_row(word, numbers):
    """Whether a word and those behind it are a row that a desk understands."""
    if word == "put":
        return len(numbers) > 0 and all(is_signed(number) for number in numbers)
    if word in WITH_A_NUMBER:
        return len(numbers) == 1 and is_number(numbers[0])
    return word in ANSWERS and len(numbers) == 0


def read_row(row):
    """The word of a row and the numbers behind it, a list."""
    word, *numbers = row.split(" ")
    if not is_row(word, numbers):
        raise NoLine("a desk does not understand this row")
    return word, [int(number) for number in numbers]


class Desk:
    """A hall, once there is one, that is spoken to by rows of words."""

    def __init__(self):
        self.hall = None

    def say(self, row):
        """The answer to a row."""
        word, blank, text = row.partition(" ")
        if word == "net" and blank != "":
            return self.begin(read_net(text))
        word, numbers = read_row(row)
        if word == "halves":
            return self.begin(halves(numbers[0]))
        if word == "mirrors":
            return self.begin(mirrors(numbers[0]))
        return self.ask(word, numbers)

    def begin(self, net):
        """A new hall takes the place of what there was."""
        self.hall = Hall(net)
        return "ok"

    def ask(self, word, numbers):
        """The answer of the hall to a word and its numbers."""
        if self.hall is None:
            raise NoLine("there is no net yet")
        if word == "put" and len(numbers) != self.hall.net[0]:
            raise NoLine(f"there are {self.hall.net[0]} wires, and {len(numbers)} numbers are put")
        answer = ANSWERS[word]
        return answer(self.hall, numbers)
