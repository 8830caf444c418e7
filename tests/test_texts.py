import random
import unittest

from samples import Refusing, bare, in_order, kinds, pairs, some_nets
from turnfork.built import cross, halves, joiner, mirrors, tree
from turnfork.errors import NoText
from turnfork.nets import is_net
from turnfork.texts import net_text, read_net

FOUR = (4, ((0, 1), (2, 3)), (0, 1, 2, 3))
FOUR_TEXT = "4 0-1 2-3 : 0 1 2 3"
WIDE = (16, ((15, 0), (10, 9)), in_order(16)[::-1])
WIDE_TEXT = "16 15-0 10-9 : 15 14 13 12 11 10 9 8 7 6 5 4 3 2 1 0"

# Words that are neither a number, a switch nor a colon in any net's text.
WRONG_WORDS = [
    "", "-", "--", "::", ":0", "0:", "a", "x-y", "+1", "-1", "-0", "00", "01", "007", "1.", "1,", "1_0", "0x1", "~", "!", "(0,1)",
    "0-", "-0-1", "0--1", "0-1-", "-1-0", "0-1-2", "0-01", "00-1", "01-0", "+0-1", "0-+1", "0_1", "0:1", "0-1,", "1e0", "0-a",
    "99999999999999999999", "17", "16-0", "0-16", "100-0", "0-100", "\"0\"", "'", "\\", "0/1", "0\\1", "0-1:", ":0-1",
]


def loosely(words):
    """The net of these words, read by Python's own numbers, where it is written just so."""
    try:
        colon = words.index(":")
        switches = tuple(tuple(int(number) for number in word.split("-")) for word in words[1:colon])
        net = (int(words[0]), switches, tuple(int(word) for word in words[colon + 1:]))
    except (ValueError, IndexError):
        return None
    return net if is_net(net) and written(net) == " ".join(words) else None


def written(net):
    text = str(net[0])
    for a, b in net[1]:
        text += " " + str(a) + "-" + str(b)
    text += " :"
    for wire in net[2]:
        text += " " + str(wire)
    return text


def begins_a_net(words):
    """Whether some net's text begins with these words."""
    ahead = list(words) if ":" in words else list(words) + [":"]
    told = ahead[ahead.index(":") + 1:]
    for width in range(1, 17):
        left = [str(wire) for wire in range(width) if str(wire) not in told]
        if loosely(ahead + left) is not None:
            return True
    return False


def first_wrong(text):
    """The number of the first word that no net's text has behind those ahead of it."""
    words = text.split(" ")
    for many in range(1, len(words) + 1):
        if not begins_a_net(words[:many]):
            return many - 1
    return None if loosely(words) is not None else len(words)


class Texts(Refusing):
    def reads(self, text, net):
        self.assertEqual(kinds(read_net(text)), kinds(net), text)
        self.assertIsNone(first_wrong(text), text)

    def wrong(self, text, word):
        refusal = self.refused(NoText, read_net, text)
        self.assertEqual(kinds(refusal.word), kinds(word), text)
        self.assertEqual(first_wrong(text), word, text)


class Written(Texts):
    def test_the_examples(self):
        self.assertEqual(kinds(net_text(FOUR)), kinds(FOUR_TEXT))
        self.assertEqual(kinds(net_text(bare(1))), kinds("1 : 0"))

    def test_a_few(self):
        self.assertEqual(net_text(WIDE), WIDE_TEXT)
        self.assertEqual(net_text((2, ((1, 0),), (1, 0))), "2 1-0 : 1 0")
        self.assertEqual(net_text(bare(3)), "3 : 0 1 2")
        self.assertEqual(net_text(halves(4)), "4 0-1 2-3 0-3 1-2 0-1 3-2 : 0 1 3 2")

    def test_by_the_document(self):
        for net in some_nets(seed=929):
            self.assertEqual(kinds(net_text(net)), kinds(written(net)))

    def test_there_and_back(self):
        nets = some_nets(seed=937) + [halves(16), mirrors(16), cross(16), tree(16), joiner(16), WIDE]
        nets += [(width, pairs(width, many), in_order(width)[::-1]) for width in (2, 3, 10, 16) for many in (1, 159, 160)]
        nets += [bare(width) for width in range(1, 17)]
        for net in nets:
            text = net_text(net)
            self.assertEqual(kinds(read_net(text)), kinds(net))
            self.assertEqual(net_text(read_net(text)), text)

    def test_somewhat_beyond_the_limits(self):
        self.assertEqual(net_text(bare(17)), "17 : " + " ".join(str(wire) for wire in range(17)))
        self.assertEqual(net_text((2, ((0, 1),) * 161, (0, 1))), "2" + " 0-1" * 161 + " : 0 1")


class Read(Texts):
    def test_the_examples(self):
        self.reads(FOUR_TEXT, FOUR)
        self.reads("1 : 0", bare(1))

    def test_a_few(self):
        self.reads(WIDE_TEXT, WIDE)
        self.reads("2 1-0 : 1 0", (2, ((1, 0),), (1, 0)))
        self.reads("3 : 2 0 1", (3, (), (2, 0, 1)))
        self.reads("2 0-1 0-1 1-0 : 0 1", (2, ((0, 1), (0, 1), (1, 0)), (0, 1)))

    def test_widths(self):
        for width in range(1, 17):
            self.reads(f"{width} : " + " ".join(str(wire) for wire in range(width)), bare(width))
        for word in ("0", "17", "18", "20", "100", "160", "01", "00", "016", "-1", "+1", "1.0", "x", ":", "0-1", "1-0", "", "1_6"):
            self.wrong(f"{word} : 0", 0)
            self.wrong(word, 0)
            self.wrong(word + " ", 0)

    def test_the_empty_text(self):
        self.wrong("", 0)
        self.wrong(" ", 0)
        self.wrong("   ", 0)

    def test_blanks(self):
        self.wrong(" 1 : 0", 0)
        self.wrong("1  : 0", 1)
        self.wrong("1 :  0", 2)
        self.wrong("1 : 0 ", 3)
        self.wrong("1 : 0  ", 3)
        self.wrong("1 :", 2)
        self.wrong("1 : ", 2)
        self.wrong("1 ", 1)
        self.wrong("4 0-1  2-3 : 0 1 2 3", 2)
        self.wrong("4 0-1 2-3  : 0 1 2 3", 3)
        self.wrong("4 0-1 2-3 : 0 1 2 3 ", 8)

    def test_a_word_that_lacks(self):
        for text in (FOUR_TEXT, WIDE_TEXT, "1 : 0", "2 0-1 : 1 0"):
            words = text.split(" ")
            for many in range(1, len(words)):
                self.wrong(" ".join(words[:many]), many)

    def test_a_word_too_many(self):
        for text, many in ((FOUR_TEXT, 8), (WIDE_TEXT, 20), ("1 : 0", 3), ("2 0-1 : 1 0", 5)):
            self.assertEqual(len(text.split(" ")), many)
            for word in ("0", "1", "4", "0-1", ":", "x", ""):
                self.wrong(f"{text} {word}", many)
                self.wrong(f"{text} {word} 0", many)

    def test_each_wrong_word_at_each_place(self):
        for text in (FOUR_TEXT, "3 2-0 : 1 0 2", "1 : 0", "2 : 1 0"):
            words = text.split(" ")
            for place in range(len(words)):
                for word in WRONG_WORDS:
                    if place == 0 and word in ("1", "16"):
                        continue
                    changed = words[:place] + [word] + words[place + 1:]
                    self.wrong(" ".join(changed), place)
                    if word != "":
                        self.wrong(" ".join(words[:place] + [word]), place)

    def test_switches(self):
        for word in ("0-0", "1-1", "3-3", "0-4", "4-0", "0-5", "0-10", "10-0", "0-16", "3-03", "03-3", "1-00"):
            self.wrong(f"4 {word} : 0 1 2 3", 1)
            self.wrong(f"4 0-1 {word} : 0 1 2 3", 2)
            self.wrong(f"4 0-1 2-3 3-2 {word} : 0 1 2 3", 4)
        self.wrong("1 0-0 : 0", 1)
        self.wrong("1 0-1 : 0", 1)
        self.wrong("2 0-2 : 0 1", 1)
        self.wrong("16 15-16 : 0", 1)
        self.wrong("4 0 : 0 1 2 3", 1)
        self.wrong("4 0-1 2 : 0 1 2 3", 2)

    def test_ends(self):
        self.wrong("2 0-1 : 0 0", 4)
        self.wrong("2 0-1 : 1 1", 4)
        self.wrong("4 : 0 1 2 0", 5)
        self.wrong("4 : 0 1 1 3", 4)
        self.wrong("4 : 0 0 0 0", 3)
        self.wrong("4 : 0 4 1 2", 3)
        self.wrong("4 : 4 0 1 2", 2)
        self.wrong("4 : 0 1 2 4", 5)
        self.wrong("4 : 0 1 2 03", 5)
        self.wrong("4 : 0 1 2 -3", 5)
        self.wrong("4 : 0 1 2 :", 5)
        self.wrong("4 : 0 1 2-3", 4)
        self.wrong("4 : : 0 1 2 3", 2)
        self.wrong("4 0-1 0 1 2 3", 2)
        self.wrong("16 : " + " ".join(str(wire) for wire in range(1, 17)), 17)

    def test_a_hundred_and_sixty_switches(self):
        for width in (2, 16):
            net = (width, pairs(width, 160), in_order(width))
            self.assertEqual(kinds(read_net(written(net))), kinds(net))
            for many in (161, 162, 200):
                net = (width, pairs(width, many), in_order(width))
                refusal = self.refused(NoText, read_net, written(net))
                self.assertEqual(refusal.word, 161)
        # The word behind a hundred and sixty switches is a colon or wrong, whatever else it is.
        for word in ("0-1", "x", "", "0"):
            refusal = self.refused(NoText, read_net, "2" + " 0-1" * 160 + " " + word)
            self.assertEqual(refusal.word, 161)
        self.assertEqual(self.refused(NoText, read_net, "2" + " 0-1" * 160).word, 161)
        self.assertEqual(self.refused(NoText, read_net, "2" + " 0-1" * 159 + " 0-2 :").word, 160)
        self.assertEqual(self.refused(NoText, read_net, "2" + " 0-1" * 160 + " :").word, 162)

    def test_long_texts(self):
        cases = [
            ("1" * 2000, 0), (" " * 2000, 0), ("~" * 2000, 0), ("0 " * 1000, 0), ("1 " * 1000, 1), ("1 : 0 " + "0" * 1994, 3),
            ("2 0-1" + " 0-1" * 498 + "   ", 161), ("2 " + "0-1" * 666, 1), ("2 : 0 1" + " 1" * 996, 4), ("1 " + ":" * 1998, 1),
            ("16" + " 0-1" * 100 + " : 0 " + "1" * 1593, 103), ("2" + " 0-1" * 160 + " : 0 1" + " " * 1353, 164), ("-" * 2000, 0),
        ]
        for text, word in cases:
            self.assertTrue(1990 <= len(text) <= 2005, len(text))
            refusal = self.refused(NoText, read_net, text)
            self.assertEqual(kinds(refusal.word), kinds(word), text)

    def test_each_sign(self):
        for sign in [chr(code) for code in range(32, 127) if chr(code) != "%"]:
            self.assertEqual(self.refused(NoText, read_net, "2 0-1 : 0 1" + sign).word, 5 if sign == " " else 4)
            expected = {" ": 1, ":": 2}.get(sign, 1)
            self.assertEqual(self.refused(NoText, read_net, "2 " + sign).word, expected, sign)

    def test_words_drawn(self):
        chance = random.Random(941)
        words = WRONG_WORDS + [":", ":", "0", "1", "2", "3", "0-1", "1-0", "1-2", "2-0", "3-1", "0-0"]
        for k in range(1500):
            text = chance.choice([FOUR_TEXT, "3 2-0 1-2 : 1 0 2", "2 0-1 : 1 0", "4 : 3 1 0 2", "1 : 0", WIDE_TEXT]).split(" ")
            for change in range(chance.randrange(1, 4)):
                place = chance.randrange(len(text) + 1)
                text[place:place + chance.randrange(2)] = [chance.choice(words)] if chance.randrange(4) else []
            text = " ".join(text)
            expected = first_wrong(text)
            if expected is None:
                self.reads(text, loosely(text.split(" ")))
            else:
                self.wrong(text, expected)

    def test_nothing_hangs_on_what_was_asked(self):
        self.refused(NoText, read_net, "4 0-1 x")
        self.reads(FOUR_TEXT, FOUR)
        self.refused(NoText, read_net, "")
        self.reads(FOUR_TEXT, FOUR)


if __name__ == "__main__":
    unittest.main()
