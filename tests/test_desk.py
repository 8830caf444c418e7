import random
import unittest

from samples import Refusing, bare, in_order, kinds, some_counts, some_nets
from turnfork.built import halves, mirrors
from turnfork.counts import is_even, put_through
from turnfork.desk import Desk
from turnfork.errors import NoLine, NoText, NoToken, NoWire, TooGreat
from turnfork.hall import Hall
from turnfork.nets import depth
from turnfork.texts import net_text

PAIR_ROW = "net 2 0-1 : 0 1"
# What is asked of a desk without changing anything there.
ASKED = ("ends", "turns", "within", "depth", "even")

# Rows that are none by their words, whether there is a net or not.
NO_ROWS = [
    "", " ", "  ", "net", "Net 1 : 0", "NET 1 : 0", "nets 1 : 0", " net 1 : 0", "nett", "hall", "x", "~", "0", "1", "-", ":",
    "halves", "mirrors", "come", "back", "go", "put", "halves ", "mirrors ", "come ", "back ", "go ", "put ",
    "rest ", "ends ", "turns ", "within ", "depth ", "even ", " rest", " ends", " come 0", " halves 2",
    "rest 0", "ends 0", "turns 1", "within 0", "depth 1", "even 0", "rest rest", "Rest", "rests", "ends:", "restends",
    "come 0 1", "back 0 1", "go 0 1", "halves 2 2", "mirrors 2 2", "come  0", "come 0 ", "go 0 ", "halves 2 ", "halves  2", "come 0  ",
    "put  1 1", "put 1  1", "put 1 1 ", "put x 1", "put 1 x", "put 1,1", "put 1 -", "put 1 --1", "put -0 1", "put 1 -00", "put 01 1",
    "put 1 -01", "put +1 1", "put 1 1-", "put 1-1 1", "put 1 1:", "put 1_0 1", "put 1 1.0", "put - 1", "put 0 00",
    "put 1 1234567890", "put -1234567890 1", "put 1 0123456789", "put 1 -0123456789",
    "cross 2", "tree 2", "joiner 2", "paper 2", "net2 0-1 : 0 1", "put1 1", "come0", "go0", "ok", "yes", "no", "-1", "come -", "come :",
]

WRONG_NUMBERS = (
    "", "00", "01", "007", "-1", "-0", "+1", "x", "1x", "x1", "1.0", "1,", "1_0", "0x1", "1-0", "-", "1e1", "1234567890",
    "0000000000", "0123456789", "10000000000", "9" * 60, "9" * 500, ":", "(1)", "'1'",
)


def said(desk, *rows):
    return [desk.say(row) for row in rows]


def desk_of(*rows):
    desk = Desk()
    said(desk, *rows)
    return desk


def stand_of(desk):
    return said(desk, *ASKED)


class Desks(Refusing):
    def says(self, desk, row, answer):
        self.assertEqual(kinds(desk.say(row)), kinds(answer), row)

    def changes_nothing(self, desk, error, row):
        before = stand_of(desk)
        refusal = self.refused(error, desk.say, row)
        self.assertEqual(stand_of(desk), before)
        return refusal


class Rows(Desks):
    def test_net(self):
        desk = Desk()
        self.says(desk, "net 4 0-1 2-3 : 0 1 2 3", "ok")
        self.says(desk, "depth", "1")
        self.says(desk, "turns", "0 0")
        self.says(desk, "ends", "0 0 0 0")
        self.says(desk, "net 1 : 0", "ok")
        self.says(desk, "ends", "0")

    def test_halves_and_mirrors(self):
        desk = Desk()
        for width in (1, 2, 4, 8, 16):
            for word, build in (("halves", halves), ("mirrors", mirrors)):
                self.says(desk, f"{word} {width}", "ok")
                net = build(width)
                self.says(desk, "depth", str(depth(net)))
                self.says(desk, "ends", " ".join(["0"] * width))
                self.says(desk, "turns", " ".join(["0"] * len(net[1])) if net[1] else "-")
                self.says(desk, f"come {width - 1}", "0")
                hall = Hall(net)
                hall.come(width - 1)
                told = None
                while told is None or told[0] != "end":
                    told = hall.go(0)
                    self.says(desk, "go 0", " ".join(str(part) for part in told))

    def test_come_back_and_go(self):
        desk = desk_of(PAIR_ROW)
        self.says(desk, "come 0", "0")
        self.says(desk, "come 1", "1")
        self.says(desk, "back 0", "2")
        self.says(desk, "within", "3")
        self.says(desk, "go 1", "switch 0 0")
        self.says(desk, "turns", "1")
        self.says(desk, "go 0", "switch 0 1")
        self.says(desk, "turns", "0")
        self.says(desk, "go 0", "end 1 1")
        self.says(desk, "ends", "0 1")
        self.says(desk, "even", "no")
        self.says(desk, "within", "2")
        self.says(desk, "go 2", "switch 0 1")
        self.says(desk, "go 2", "end 1 1")
        self.says(desk, "ends", "0 0")
        self.says(desk, "even", "yes")
        self.says(desk, "go 1", "end 0 0")
        self.says(desk, "ends", "1 0")
        self.says(desk, "even", "yes")

    def test_numbers_below_0(self):
        desk = desk_of(PAIR_ROW)
        self.says(desk, "back 1", "0")
        self.says(desk, "go 0", "switch 0 1")
        self.says(desk, "go 0", "end 1 -1")
        self.says(desk, "ends", "0 -1")
        self.says(desk, "even", "yes")
        self.says(desk, "back 1", "1")
        self.says(desk, "rest", "1")
        self.says(desk, "ends", "-1 -1")

    def test_rest(self):
        desk = desk_of(PAIR_ROW)
        self.says(desk, "rest", "0")
        said(desk, "come 0", "come 0", "back 1", "come 1", "go 1")
        self.says(desk, "rest", "4")
        self.says(desk, "within", "0")
        self.says(desk, "ends", "1 1")
        self.says(desk, "rest", "0")
        self.says(desk, "come 0", "4")
        self.says(desk, "rest", "1")

    def test_a_net_without_switches(self):
        desk = desk_of("net 3 : 2 0 1")
        self.says(desk, "turns", "-")
        self.says(desk, "depth", "0")
        self.says(desk, "come 2", "0")
        self.says(desk, "go 0", "end 0 0")
        self.says(desk, "come 1", "1")
        self.says(desk, "rest", "1")
        self.says(desk, "ends", "1 0 1")
        self.says(desk, "even", "no")
        self.says(desk, "put 1 2 3", "3 1 2")
        self.says(desk, "turns", "-")

    def test_even(self):
        desk = desk_of("net 2 : 0 1", "come 0", "come 0")
        for answer, rows in (("yes", ()), ("yes", ("go 0",)), ("no", ("go 1",)), ("yes", ("come 1", "rest")), ("yes", ("come 1", "rest"))):
            said(desk, *rows)
            self.says(desk, "even", answer)
        self.says(desk, "ends", "2 2")

    def test_put(self):
        desk = desk_of(PAIR_ROW)
        for row, answer in (
            ("put 0 0", "0 0"), ("put 5 0", "3 2"), ("put 0 5", "3 2"), ("put -1 0", "0 -1"), ("put 3 -4", "0 -1"),
            ("put -3 -4", "-3 -4"), ("put 999999999 999999999", "999999999 999999999"), ("put -999999999 0", "-499999999 -500000000"),
            ("put 100000000 10", "50000005 50000005"), ("put 0 -5", "-2 -3"),
        ):
            self.says(desk, row, answer)
        said(desk, "come 0", "go 0")
        before = stand_of(desk)
        # Whatever turns there are now, what is put goes through from turns 0.
        self.says(desk, "put 1 0", "1 0")
        self.assertEqual(stand_of(desk), before)
        desk = desk_of("net 1 : 0")
        self.says(desk, "put -7", "-7")
        self.says(desk, "put 0", "0")
        desk = desk_of("halves 16")
        self.says(desk, "put" + " 3" * 16, " ".join(["3"] * 16))

    def test_a_new_net_begins_anew(self):
        for row in (PAIR_ROW, "halves 2", "mirrors 2"):
            desk = desk_of(PAIR_ROW, "come 0", "come 1", "go 0", "go 0", "come 0")
            self.assertEqual(stand_of(desk), ["1 0", "1", "2", "1", "yes"])
            self.says(desk, row, "ok")
            self.assertEqual(stand_of(desk), ["0 0", "0", "0", "1", "yes"])
            self.refused(NoToken, desk.say, "go 1")
            self.says(desk, "come 1", "0")

    def test_two_desks_by_turns(self):
        one, other = Desk(), Desk()
        self.says(one, PAIR_ROW, "ok")
        self.refused(NoLine, other.say, "come 0")
        self.says(other, "net 3 : 0 1 2", "ok")
        self.says(one, "come 0", "0")
        self.says(other, "come 2", "0")
        self.says(other, "come 2", "1")
        self.says(one, "come 1", "1")
        self.says(other, "go 0", "end 2 2")
        self.says(one, "go 0", "switch 0 0")
        self.says(other, "within", "1")
        self.says(one, "within", "2")
        self.says(other, "rest", "1")
        self.says(one, "ends", "0 0")
        self.says(other, "ends", "0 0 2")


class Refused(Desks):
    def test_rows_that_are_none(self):
        for row in NO_ROWS:
            self.refused(NoLine, Desk().say, row)
            self.changes_nothing(desk_of(PAIR_ROW, "come 0", "go 0", "come 1"), NoLine, row)

    def test_rows_ahead_of_any_net(self):
        rows = ["come 0", "back 0", "go 0", "rest", "ends", "turns", "within", "depth", "even", "put 0", "put 1 2", "come 99", "go 99"]
        for row in rows:
            desk = Desk()
            self.refused(NoLine, desk.say, row)
            self.says(desk, "halves 1", "ok")
        # What was refused made no net.
        for row in ("net x", "halves 3", "mirrors 0", "net", "halves"):
            desk = Desk()
            self.assertRaises((NoLine, NoText, TooGreat), desk.say, row)
            self.refused(NoLine, desk.say, "ends")

    def test_no_text(self):
        for text, word in (
            ("", 0), (" ", 0), (" 1 : 0", 0), ("1", 1), ("1 ", 1), ("1 :", 2), ("1 : 0 ", 3), ("2  0-1 : 0 1", 1), ("2 0-1 : 0 0", 4),
            ("17 :", 0), ("2 0-2 : 0 1", 1), ("x", 0), ("net 1 : 0", 0), ("2" + " 0-1" * 161 + " : 0 1", 161),
        ):
            refusal = self.refused(NoText, Desk().say, "net " + text)
            self.assertEqual(kinds(refusal.word), kinds(word))
            refusal = self.changes_nothing(desk_of(PAIR_ROW, "come 0", "go 0"), NoText, "net " + text)
            self.assertEqual(refusal.word, word)

    def test_too_great(self):
        for word in ("halves", "mirrors"):
            for width in (0, 3, 5, 15, 17, 32, 64, 100000000, 999999999):
                self.refused(TooGreat, Desk().say, f"{word} {width}")
                self.changes_nothing(desk_of(PAIR_ROW, "come 0", "go 0"), TooGreat, f"{word} {width}")

    def test_no_wire(self):
        for word in ("come", "back"):
            for wire in (2, 3, 16, 123456789, 999999999):
                desk = desk_of(PAIR_ROW, "come 0", "go 0")
                self.changes_nothing(desk, NoWire, f"{word} {wire}")
                self.says(desk, "come 1", "1")
            self.changes_nothing(desk_of("halves 16"), NoWire, f"{word} 16")
            self.says(desk_of("halves 16"), f"{word} 15", "0")

    def test_no_token(self):
        desk = desk_of(PAIR_ROW)
        self.changes_nothing(desk, NoToken, "go 0")
        said(desk, "come 0", "come 0")
        for token in (2, 3, 123456789, 999999999):
            self.changes_nothing(desk, NoToken, f"go {token}")
        said(desk, "go 0", "go 0")
        self.changes_nothing(desk, NoToken, "go 0")
        self.says(desk, "go 1", "switch 0 1")

    def test_numbers(self):
        for word in ("halves", "mirrors", "come", "back", "go"):
            for number in WRONG_NUMBERS:
                self.refused(NoLine, Desk().say, f"{word} {number}")
                self.changes_nothing(desk_of("net 2 : 0 1", "come 0", "come 0"), NoLine, f"{word} {number}")
        for number in WRONG_NUMBERS:
            if number == "-1":
                continue
            for row in (f"put {number} 0", f"put 0 {number}", f"put 0 -{number}"):
                self.changes_nothing(desk_of(PAIR_ROW), NoLine, row)
            self.changes_nothing(desk_of("net 1 : 0"), NoLine, f"put {number}")

    def test_nine_figures_and_ten(self):
        desk = desk_of(PAIR_ROW)
        self.changes_nothing(desk, NoWire, "come 123456789")
        self.changes_nothing(desk, NoLine, "come 1234567890")
        self.changes_nothing(desk, NoToken, "go 123456789")
        self.changes_nothing(desk, NoLine, "go 1234567890")
        self.changes_nothing(desk, TooGreat, "halves 123456789")
        self.changes_nothing(desk, NoLine, "halves 1234567890")
        self.says(desk, "put 123456789 -123456789", "0 0")
        self.changes_nothing(desk, NoLine, "put 1234567890 0")
        self.changes_nothing(desk, NoLine, "put 0 -1234567890")

    def test_put_of_other_than_so_many(self):
        for width in (1, 2, 3, 16):
            desk = desk_of("net " + net_text(bare(width)))
            for many in range(1, 20):
                row = "put" + " 1" * many
                if many == width:
                    self.says(desk, row, row[4:])
                else:
                    self.changes_nothing(desk, NoLine, row)
            self.changes_nothing(desk, NoLine, "put")

    def test_which_goes_first(self):
        # Ahead of any net a wire, a token is not even looked for.
        for row in ("come 5", "back 5", "go 5", "put 1 2 3"):
            self.refused(NoLine, Desk().say, row)
        # The words come first, then what they mean.
        desk = desk_of(PAIR_ROW)
        for row in ("come 05", "back 5 5", "go 5 ", "halves 03", "mirrors 3 3", "halves 3 "):
            self.changes_nothing(desk, NoLine, row)
        for error, row in ((NoWire, "come 5"), (NoWire, "back 5"), (NoToken, "go 5"), (TooGreat, "halves 3"), (TooGreat, "mirrors 3")):
            self.changes_nothing(desk, error, row)
        # A net's row is one by its first word and its blank alone.
        self.changes_nothing(desk, NoText, "net ")
        self.changes_nothing(desk, NoText, "net  ")
        self.changes_nothing(desk, NoText, "net come 0")
        self.changes_nothing(desk, NoLine, "net")
        self.refused(NoText, Desk().say, "net  2 0-1 : 0 1")


class AsAHall(Desks):
    def test_rows_drawn(self):
        chance = random.Random(947)
        for net in some_nets(seed=953, each=2) + [halves(8), mirrors(4)]:
            desk, hall = desk_of("net " + net_text(net)), Hall(net)
            for step in range(60):
                self.step(chance, desk, hall)
                self.compare(desk, hall)

    def step(self, chance, desk, hall):
        within = [row[0] for row in hall.stand()[1]]
        word = chance.choice(["come", "back", "go", "go", "go", "go", "rest", "put", "wrong"])
        if word == "go" and within:
            token = chance.choice(within)
            told = hall.go(token)
            self.says(desk, f"go {token}", " ".join(str(part) for part in told))
        elif word == "rest" and chance.randrange(4) == 0:
            self.says(desk, "rest", str(len(hall.rest())))
        elif word == "put":
            counts = some_counts(chance, hall.net[0], -99, 99)
            told = put_through(hall.net, counts)
            self.says(desk, "put " + " ".join(str(count) for count in counts), " ".join(str(count) for count in told))
        elif word == "wrong":
            self.refused(NoLine, desk.say, chance.choice(NO_ROWS))
            self.refused(NoWire, desk.say, f"come {hall.net[0]}")
            self.refused(NoToken, desk.say, "go 999")
        elif word in ("come", "back"):
            wire = chance.randrange(hall.net[0])
            self.says(desk, f"{word} {wire}", str(getattr(hall, word)(wire)))

    def compare(self, desk, hall):
        turns, within, counts = hall.stand()
        self.says(desk, "turns", " ".join(str(turn) for turn in turns) if turns else "-")
        self.says(desk, "within", str(len(within)))
        self.says(desk, "ends", " ".join(str(count) for count in counts))
        self.says(desk, "even", "yes" if is_even(tuple(counts)) else "no")
        self.says(desk, "depth", str(depth(hall.net)))

    def test_long_rows(self):
        net = (16, ((14, 15), (10, 11)) * 80, in_order(16))
        desk = desk_of("net " + net_text(net))
        self.says(desk, "depth", "80")
        self.says(desk, "turns", " ".join(["0"] * 160))
        self.refused(NoLine, desk.say, "put" + " 1" * 998)
        self.refused(NoLine, desk.say, "x" * 2000)
        self.refused(NoLine, desk.say, " " * 2000)
        self.refused(NoLine, desk.say, "come " + "1" * 1995)
        self.refused(NoText, desk.say, "net " + "1" * 1996)


if __name__ == "__main__":
    unittest.main()
