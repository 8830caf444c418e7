"""What point 3 of the document promises over the whole program, each by several modules together."""

import random
import unittest

from samples import dealt, halvings, layered, shuffled, some_counts, some_events, some_net, some_nets, some_turns
from samples import some_weaving, stands_even
from turnfork.built import cross, halves, joiner, mirrors, tree
from turnfork.counts import even_of, is_even, passed, put_from, put_through, spread
from turnfork.desk import Desk
from turnfork.errors import NoFork, TooGreat
from turnfork.hall import Hall
from turnfork.judged import judged, sorts
from turnfork.nets import depth, is_net
from turnfork.order import lacking, one_by_one, waits
from turnfork.papers import is_paper, joins, paper_of
from turnfork.texts import net_text, read_net
from turnfork.together import behind, beside, renamed
from turnfork.weavings import stand_behind, woven
from turnfork.widening import Tree


def many_nets(chance):
    """Drawn nets, built ones and nets put together of both."""
    nets = some_nets(seed=1009, each=2) + [halves(8), mirrors(4), mirrors(16), joiner(8), cross(8), tree(16)]
    nets.append(behind(halves(8), layered(chance, 8, 3)))
    nets.append(beside(tree(4), some_net(chance, 5, 12)))
    nets.append(renamed(mirrors(8), shuffled(chance, 8)))
    return nets


def some_comings(chance, net, words, many):
    return [(chance.choice(words), chance.randrange(net[0])) for k in range(many)]


def counts_of(net, events):
    """What comes on each wire, less what takes back there."""
    counts = [0] * net[0]
    for word, number in events:
        if word != "go":
            counts[number] += 1 if word == "come" else -1
    return tuple(counts)


class Whole(unittest.TestCase):
    def test_whatever_the_weaving(self):
        chance = random.Random(1013)
        for net in many_nets(chance):
            for words in (("come",), ("come", "back"), ("back",)):
                events = some_weaving(chance, net, some_comings(chance, net, words, 25))
                counts = counts_of(net, events)
                ends, turns = put_from(net, (0,) * len(net[1]), counts)
                self.assertEqual(ends, put_through(net, counts))
                self.assertEqual(stand_behind(net, events), (list(turns), [], list(ends)))

    def test_whatever_is_left_to_rest(self):
        chance = random.Random(1019)
        for net in many_nets(chance):
            events = some_events(chance, net, 70)
            hall = Hall(net)
            for word, number in events:
                {"come": hall.come, "back": hall.back, "go": hall.go}[word](number)
            self.assertEqual(hall.stand(), stand_behind(net, events))
            hall.rest()
            ends, turns = put_from(net, (0,) * len(net[1]), counts_of(net, events))
            self.assertEqual(hall.stand(), (list(turns), [], list(ends)))

    def test_at_a_desk_by_the_nets_text(self):
        chance = random.Random(1021)
        for net in many_nets(chance):
            self.assertEqual(read_net(net_text(net)), net)
            events = some_events(chance, net, 40)
            desk = Desk()
            desk.say("net " + net_text(net))
            for word, number in events:
                desk.say(f"{word} {number}")
            within = stand_behind(net, events)[1]
            self.assertEqual(desk.say("within"), str(len(within)))
            self.assertEqual(desk.say("rest"), str(len(within)))
            counts = counts_of(net, events)
            self.assertEqual(desk.say("ends"), desk.say("put " + " ".join(str(count) for count in counts)))
            turns = put_from(net, (0,) * len(net[1]), counts)[1]
            self.assertEqual(desk.say("turns"), " ".join(str(turn) for turn in turns) or "-")

    def test_one_by_one_as_by_counts(self):
        chance = random.Random(1031)
        for net in many_nets(chance):
            counts = some_counts(chance, net[0], 0, 4)
            events = one_by_one(net, counts)
            self.assertEqual(stand_behind(net, events)[2], list(put_through(net, counts)))
            self.assertEqual([through for through, waited in waits(net, events)], passed(net, counts))

    def test_small_nets_count_or_counts_show_that_they_do_not(self):
        chance = random.Random(1033)
        found = {"counts": 0, "off": 0}
        for k in range(150):
            width = chance.choice((1, 2, 2, 3, 4, 6))
            net = layered(chance, width, chance.randrange(12 // width + 1) if width > 1 else 0)
            told = judged(net)
            found[told[0]] += 1
            if told == ("counts",):
                for high in (3, 100, 10 ** 20):
                    counts = some_counts(chance, width, 0, high)
                    self.assertEqual(put_through(net, counts), even_of(width, sum(counts)))
                events = some_weaving(chance, net, some_comings(chance, net, ("come",), 20))
                self.assertIs(is_even(stand_behind(net, events)[2]), True)
                self.assertEqual(sorts(net), ("sorts",))
            else:
                self.assertIs(is_even(put_through(net, told[1])), False)
                self.assertTrue(all(0 <= count <= 2 * 2 ** depth(net) for count in told[1]))
        self.assertTrue(min(found.values()) > 20, found)

    def test_what_a_paper_shows_counts_and_sorts(self):
        chance = random.Random(1039)
        for width in (1, 2, 4, 8):
            net = halves(width)
            self.assertIs(is_paper(net, paper_of(width)), True)
            self.assertEqual(sorts(net), ("sorts",))
            for k in range(40):
                counts = some_counts(chance, width, 0, 10 ** chance.randrange(1, 30))
                self.assertEqual(put_through(net, counts), even_of(width, sum(counts)))

    def test_papers_are_refused_where_counts_show_that_a_net_does_not_count(self):
        chance = random.Random(1049)
        for k in range(60):
            width = chance.choice((2, 4, 8))
            net = halves(width)
            place = chance.randrange(len(net[1]))
            less = (width, net[1][:place] + net[1][place + 1:], net[2])
            shown = [counts for counts in (some_counts(chance, width, 0, 3) for k in range(300))
                     if not is_even(put_through(less, counts))]
            if shown:
                self.assertIs(is_paper(less, paper_of(width)), False)

    def test_built_nets_count(self):
        chance = random.Random(1051)
        for width in (1, 2, 4, 8, 16):
            for net in (halves(width), mirrors(width)):
                events = some_weaving(chance, net, some_comings(chance, net, ("come",), 40))
                told = [row for row in woven(net, events) if type(row) is tuple and row[0] == "end"]
                self.assertEqual(sorted(number for word, end, number in told), list(range(40)))
                self.assertEqual(stand_behind(net, events)[2], list(dealt(width, 40)))
            events = some_weaving(chance, tree(width), [("come", 0)] * 40)
            told = [row for row in woven(tree(width), events) if type(row) is tuple and row[0] == "end"]
            self.assertEqual(sorted(number for word, end, number in told), list(range(40)))

    def test_built_nets_count_behind_any_net_and_taking_back(self):
        chance = random.Random(1061)
        for width in (2, 4, 8):
            for net in (behind(layered(chance, width, 2), halves(width)), behind(layered(chance, width, 2), mirrors(width))):
                self.assertIs(is_net(net), True)
                hall = Hall(net)
                for k in range(30):
                    hall.come(chance.randrange(width))
                for k in range(9):
                    hall.back(chance.randrange(width))
                for k in range(60):
                    within = hall.stand()[1]
                    if within:
                        hall.go(chance.choice(within)[0])
                hall.rest()
                self.assertEqual(hall.numbers(), list(range(21)))
                self.assertTrue(stands_even(hall.stand()[2]))

    def test_the_joiner_joins_two_nets_that_count(self):
        chance = random.Random(1063)
        for width in (2, 4, 8, 16):
            half = width // 2
            first = beside(mirrors(half), mirrors(half))
            both = behind(first, joiner(width))
            for k in range(60):
                counts = some_counts(chance, width, 0, 50)
                self.assertEqual(put_through(both, counts), even_of(width, sum(counts)))
            if width <= 8:
                order = first[2]
                self.assertIs(joins(joiner(width), order[:half], order[half:]), True)
            if width <= 4:
                self.assertEqual(sorts(both), ("sorts",))

    def test_the_spread_behind_a_cross_in_use(self):
        chance = random.Random(1069)
        for width in (1, 2, 4, 8, 16):
            net = cross(width)
            hall = Hall(net)
            for k in range(40):
                before, ahead = hall.stand()[0], hall.stand()[2]
                counts = some_counts(chance, width, 0, 6)
                for wire in range(width):
                    for token in range(counts[wire]):
                        hall.come(wire)
                hall.rest()
                ends = [count - earlier for count, earlier in zip(hall.stand()[2], ahead)]
                self.assertEqual(tuple(ends), put_from(net, tuple(before), counts)[0])
                self.assertLessEqual(spread(ends), halvings(width))

    def test_by_no_net_does_a_spread_grow(self):
        chance = random.Random(1087)
        for net in many_nets(chance):
            for high in (0, 1, 2, 30, 10 ** 20):
                for k in range(10):
                    counts = some_counts(chance, net[0], -high, high)
                    self.assertLessEqual(spread(put_through(net, counts)), spread(counts))
                    self.assertLessEqual(spread(put_from(net, some_turns(chance, net), counts)[0]), spread(counts))

    def test_midway_in_nets_that_count(self):
        chance = random.Random(1091)
        nets = [halves(4), mirrors(4), halves(16), renamed(mirrors(8), shuffled(chance, 8)), read_net(net_text(halves(8)))]
        for net in nets:
            events = some_events(chance, net, 120, ("come",))
            told = woven(net, events)
            for place in range(len(events) + 1):
                taken = [row[2] for row in told[:place] if type(row) is tuple and row[0] == "end"]
                came = sum(type(row) is int for row in told[:place])
                self.assertEqual(len(set(taken)), len(taken))
                self.assertTrue(all(0 <= number < came for number in taken))
                self.assertEqual(came - len(taken), len(stand_behind(net, events[:place])[1]))
                self.assertEqual(lacking(net, events[:place]), sorted(set(range(came)) - set(taken)))
                self.assertEqual(len(lacking(net, events[:place])), came - len(taken))

    def test_a_tree_that_widens_as_the_built_one(self):
        chance = random.Random(1093)
        for halved in range(5):
            width = 2 ** halved
            tall, hall = Tree(), Hall(tree(width))
            for signs in range(halved):
                for name in [leaf[0] for leaf in tall.leaves()]:
                    tall.widen(name)
            self.assertEqual(len(tall.leaves()), width)
            for k in range(200):
                within = [token for token, name in tall.within()]
                if within and chance.randrange(10) < 7:
                    token = chance.choice(within)
                    one, other = tall.go(token), hall.go(token)
                    self.assertEqual((one[0], other[0]) in (("fork", "switch"), ("leaf", "end")), True)
                    if one[0] == "leaf":
                        self.assertEqual(one[2], other[2])
                else:
                    self.assertEqual(tall.come(), hall.come(0))

    def test_a_tree_gives_just_the_first_numbers(self):
        chance = random.Random(1097)
        for k in range(20):
            tall = Tree()
            taken = []
            for step in range(300):
                word = chance.randrange(6)
                if word < 2:
                    tall.come()
                elif word < 4 and tall.within():
                    taken.append(tall.go(chance.choice(tall.within())[0]))
                elif word == 4:
                    tall.widen(chance.choice([leaf[0] for leaf in tall.leaves() if len(leaf[0]) < 10]))
                else:
                    try:
                        tall.narrow(chance.choice(tall.leaves())[0][:-1])
                    except NoFork:
                        pass
            while tall.within():
                taken.append(tall.go(chance.choice(tall.within())[0]))
            numbers = [row[2] for row in taken if row[0] == "leaf"]
            self.assertEqual(sorted(numbers), list(range(tall.come())))

    def test_nothing_handed_in_is_changed_and_nothing_hangs_on_what_was_asked(self):
        chance = random.Random(1103)
        net = halves(8)
        events = some_events(chance, net, 60, ("come",))
        kept = list(events)
        first = (woven(net, events), stand_behind(net, events), lacking(net, events), waits(net, events))
        for width in (3, 32):
            self.assertRaises(TooGreat, halves, width)
        Desk().say("halves 8")
        Hall(net).come(3)
        self.assertEqual((woven(net, events), stand_behind(net, events), lacking(net, events), waits(net, events)), first)
        self.assertEqual(events, kept)
        self.assertEqual(net, halves(8))


if __name__ == "__main__":
    unittest.main()
