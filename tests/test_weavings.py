import copy
import itertools
import random
import unittest

from samples import Crowd, bare, in_order, kinds, pairs, some_events, some_net, some_nets, some_weaving
from turnfork.counts import even_of, put_from, put_through
from turnfork.errors import NoEvent
from turnfork.weavings import stand_behind, woven

ONE = (1, (), (0,))
PAIR = (2, ((0, 1),), (0, 1))
CROSSING = (4, ((0, 1), (2, 3), (0, 3), (1, 2)), (0, 1, 2, 3))
SHUFFLED = (3, ((2, 0), (1, 2)), (2, 0, 1))
SIXTY = 10 ** 60 - 1


def comings(plain, back):
    """The comings of so many plain tokens, and of so many that take back, on each wire."""
    told = []
    for wire, many in enumerate(plain):
        told += [("come", wire)] * many
    for wire, many in enumerate(back):
        told += [("back", wire)] * many
    return told


class Woven(unittest.TestCase):
    def test_no_events(self):
        for net in some_nets(seed=101, each=1):
            self.assertEqual(kinds(woven(net, [])), kinds([]))

    def test_a_switch_takes_turns(self):
        events = [("come", 1), ("come", 0), ("go", 1), ("go", 0), ("go", 1), ("go", 0)]
        expected = [0, 1, ("switch", 0, 0), ("switch", 0, 1), ("end", 0, 0), ("end", 1, 1)]
        self.assertEqual(woven(PAIR, events), expected)

    def test_turned_around_the_other_wire_is_first(self):
        events = [("come", 0), ("go", 0), ("go", 0), ("come", 0), ("go", 1), ("go", 1)]
        expected = [0, ("switch", 0, 1), ("end", 1, 1), 1, ("switch", 0, 0), ("end", 0, 0)]
        self.assertEqual(woven((2, ((1, 0),), (0, 1)), events), expected)

    def test_numbers_grow_by_the_width(self):
        events = []
        for token in range(6):
            events += [("come", token % 2), ("go", token), ("go", token)]
        told = woven(PAIR, events)
        self.assertEqual([told[k] for k in range(0, 18, 3)], [0, 1, 2, 3, 4, 5])
        expected = [("end", 0, 0), ("end", 1, 1), ("end", 0, 2), ("end", 1, 3), ("end", 0, 4), ("end", 1, 5)]
        self.assertEqual([told[k] for k in range(2, 18, 3)], expected)

    def test_who_goes_first_takes_the_first_turn(self):
        come = [("come", 0), ("come", 3)]
        for events, expected in (
            (
                [("go", 0), ("go", 0), ("go", 0), ("go", 1), ("go", 1), ("go", 1)],
                [("switch", 0, 0), ("switch", 2, 0), ("end", 0, 0), ("switch", 1, 2), ("switch", 3, 1), ("end", 1, 1)],
            ),
            (
                [("go", 1), ("go", 1), ("go", 0), ("go", 0), ("go", 0), ("go", 1)],
                [("switch", 1, 2), ("switch", 3, 1), ("switch", 0, 0), ("switch", 2, 0), ("end", 0, 0), ("end", 1, 1)],
            ),
        ):
            self.assertEqual(woven(CROSSING, come + events), [0, 1] + expected)

    def test_orders_of_the_same_tokens_share_the_numbers(self):
        goings = [0, 0, 1, 1, 2, 2]
        for order in sorted(set(itertools.permutations(goings))):
            told = woven(PAIR, [("come", 0)] * 3 + [("go", token) for token in order])[3:]
            passing = [token for k, token in enumerate(order) if token not in order[:k]]
            self.assertEqual([t for t in told if t[0] == "switch"], [("switch", 0, k % 2) for k in range(3)])
            wires = {token: k % 2 for k, token in enumerate(passing)}
            for token, told_of_it in zip(order, told):
                if told_of_it[0] == "end":
                    self.assertEqual(told_of_it[1], wires[token])
            self.assertEqual(sorted(t[2] for t in told if t[0] == "end"), [0, 1, 2])

    def test_a_net_without_switches(self):
        net = (3, (), (2, 0, 1))
        events = [("come", 2), ("come", 0), ("go", 0), ("come", 2), ("go", 2), ("come", 1), ("go", 3), ("go", 1)]
        expected = [0, 1, ("end", 0, 0), 2, ("end", 0, 3), 3, ("end", 2, 2), ("end", 1, 1)]
        self.assertEqual(woven(net, events), expected)

    def test_width_one(self):
        events = [("come", 0), ("come", 0), ("go", 1), ("back", 0), ("go", 2), ("go", 0), ("back", 0), ("go", 3)]
        expected = [0, 1, ("end", 0, 0), 2, ("end", 0, 0), ("end", 0, 0), 3, ("end", 0, 0)]
        self.assertEqual(woven(ONE, events), expected)
        events = [("back", 0), ("go", 0), ("back", 0), ("go", 1), ("come", 0), ("go", 2), ("come", 0), ("go", 3)]
        expected = [0, ("end", 0, -1), 1, ("end", 0, -2), 2, ("end", 0, -2), 3, ("end", 0, -1)]
        self.assertEqual(woven(ONE, events), expected)

    def test_taking_back_ahead_of_plain_ones(self):
        events = [("back", 0), ("go", 0), ("go", 0), ("come", 0), ("go", 1), ("go", 1), ("come", 1), ("go", 2)]
        expected = [0, ("switch", 0, 1), ("end", 1, -1), 1, ("switch", 0, 1), ("end", 1, -1), 2, ("switch", 0, 0)]
        self.assertEqual(woven(PAIR, events), expected)

    def test_taking_back_behind_plain_ones(self):
        events = []
        for token, word in enumerate(["come"] * 3 + ["back"] * 5):
            events += [(word, token % 2), ("go", token), ("go", token)]
        told = woven(PAIR, events)
        self.assertEqual([told[k][2] for k in range(1, 24, 3)], [0, 1, 0, 0, 1, 0, 1, 0])
        self.assertEqual([told[k][2] for k in range(2, 24, 3)], [0, 1, 2, 2, 1, 0, -1, -2])

    def test_taking_back_among_plain_ones(self):
        events = [
            ("come", 0), ("come", 0), ("back", 1),
            ("go", 0), ("go", 2), ("go", 1),
            ("go", 2), ("go", 1), ("go", 0),
        ]
        expected = [
            0, 1, 2,
            ("switch", 0, 0), ("switch", 0, 0), ("switch", 0, 0),
            ("end", 0, -2), ("end", 0, -2), ("end", 0, 0),
        ]
        self.assertEqual(woven(PAIR, events), expected)

    def test_counts_below_zero_at_several_ends(self):
        events = [("back", 0)] * 4
        for token in range(4):
            events += [("go", token)] * 2
        told = woven(PAIR, events)[4:]
        self.assertEqual(told[0::2], [("switch", 0, 1), ("switch", 0, 0), ("switch", 0, 1), ("switch", 0, 0)])
        self.assertEqual(told[1::2], [("end", 1, -1), ("end", 0, -2), ("end", 1, -3), ("end", 0, -4)])

    def test_an_order_that_is_not_that_of_the_wires(self):
        # Wire 2 lies at end 0, wire 0 at end 1, wire 1 at end 2.
        events = [("come", 0), ("go", 0), ("go", 0), ("go", 0), ("come", 0), ("go", 1), ("go", 1)]
        expected = [0, ("switch", 0, 2), ("switch", 1, 1), ("end", 2, 2), 1, ("switch", 0, 0), ("end", 1, 1)]
        self.assertEqual(woven(SHUFFLED, events), expected)
        events = [("come", 1), ("come", 2), ("go", 1), ("go", 0), ("go", 1), ("go", 1), ("go", 0)]
        expected = [0, 1, ("switch", 0, 2), ("switch", 1, 1), ("switch", 1, 2), ("end", 0, 0), ("end", 2, 2)]
        self.assertEqual(woven(SHUFFLED, events), expected)

    def test_the_next_switch_is_the_next_on_the_wire(self):
        # Switch 1 shares no wire with wire 0, and switch 0 lies behind a token that passed it.
        net = (4, ((0, 1), (2, 3), (1, 2), (0, 1)), (0, 1, 2, 3))
        events = [("come", 0)] + [("go", 0)] * 3 + [("come", 0)] + [("go", 1)] * 4
        expected = [0, ("switch", 0, 0), ("switch", 3, 0), ("end", 0, 0)]
        expected += [1, ("switch", 0, 1), ("switch", 2, 1), ("switch", 3, 1), ("end", 1, 1)]
        self.assertEqual(woven(net, events), expected)

    def test_the_same_switch_again(self):
        net = (2, ((0, 1), (0, 1), (1, 0)), (1, 0))
        events = [("come", 1)] + [("go", 0)] * 4 + [("come", 1)] + [("go", 1)] * 4
        expected = [0, ("switch", 0, 0), ("switch", 1, 0), ("switch", 2, 1), ("end", 0, 0)]
        expected += [1, ("switch", 0, 1), ("switch", 1, 1), ("switch", 2, 0), ("end", 1, 1)]
        self.assertEqual(woven(net, events), expected)

    def test_as_the_words_say(self):
        chance = random.Random(103)
        for net in some_nets(seed=107):
            for words in (("come",), ("back",), ("come", "back"), ("come", "come", "come", "back")):
                events = some_events(chance, net, 120, words)
                crowd = Crowd(net)
                self.assertEqual(woven(net, events), [crowd.do(event) for event in events])

    def test_the_beginning_tells_the_same(self):
        chance = random.Random(109)
        for net in some_nets(seed=113, each=1):
            events = some_events(chance, net, 40)
            told = woven(net, events)
            for many in range(41):
                self.assertEqual(woven(net, events[:many]), told[:many])

    def test_kinds(self):
        told = woven(PAIR, [("come", 1), ("back", 0), ("go", 0), ("go", 0), ("go", 1), ("go", 1)])
        expected = [0, 1, ("switch", 0, 0), ("end", 0, 0), ("switch", 0, 0), ("end", 0, 0)]
        self.assertEqual(kinds(told), kinds(expected))
        chance = random.Random(127)
        for net in some_nets(seed=131, each=1):
            events = some_events(chance, net, 60)
            crowd = Crowd(net)
            self.assertEqual(kinds(woven(net, events)), kinds([crowd.do(event) for event in events]))

    def test_what_is_handed_in_stays(self):
        chance = random.Random(137)
        for net in some_nets(seed=139, each=1):
            events = some_events(chance, net, 30)
            kept = copy.deepcopy(events)
            woven(net, events)
            stand_behind(net, events)
            self.assertEqual(kinds(events), kinds(kept))

    def test_lists_are_the_askers_own(self):
        events = [("come", 0), ("go", 0), ("go", 0)]
        told = woven(PAIR, events)
        again = woven(PAIR, events)
        self.assertIsNot(told, again)
        self.assertIsNot(told, events)
        told.clear()
        self.assertEqual(again, [0, ("switch", 0, 0), ("end", 0, 0)])
        self.assertEqual(woven(PAIR, events), again)
        nothing = woven(PAIR, [])
        nothing.append(7)
        self.assertEqual(woven(PAIR, []), [])

    def test_nothing_hangs_on_what_was_asked_ahead(self):
        chance = random.Random(149)
        asked = [(net, some_events(chance, net, 30)) for net in some_nets(seed=151, each=1)]
        first = [(woven(net, events), stand_behind(net, events)) for net, events in asked]
        for net, events in asked:
            with self.assertRaises(NoEvent):
                woven(net, events + [("come", net[0])])
        last = [(woven(net, events), stand_behind(net, events)) for net, events in reversed(asked)]
        self.assertEqual(first, last[::-1])

    def test_somewhat_beyond_the_limits(self):
        chance = random.Random(157)
        for net in (some_net(chance, 18, 170), (4, pairs(4, 200), in_order(4))):
            events = some_events(chance, net, 100)
            crowd = Crowd(net)
            self.assertEqual(woven(net, events), [crowd.do(event) for event in events])
            self.assertEqual(stand_behind(net, events), crowd.stand())

    def test_many_events_through_many_switches(self):
        net = (16, pairs(16, 160), in_order(16))
        events = []
        for token in range(400):
            events.append(("come", token % 16))
        crowd = Crowd(net)
        for event in list(events):
            crowd.do(event)
        for token in range(400):
            while token not in crowd.left:
                events.append(("go", token))
                crowd.do(events[-1])
        self.assertEqual(stand_behind(net, events), crowd.stand())
        told = woven(net, events)
        counts = put_through(net, (25,) * 16)
        for end in range(16):
            numbers = [t[2] for t in told[400:] if t[:2] == ("end", end)]
            self.assertEqual(numbers, [end + 16 * c for c in range(counts[end])])


class StandBehind(unittest.TestCase):
    def test_behind_no_events(self):
        for net in some_nets(seed=163):
            expected = ([0] * len(net[1]), [], [0] * net[0])
            self.assertEqual(kinds(stand_behind(net, [])), kinds(expected))

    def test_behind_each_beginning(self):
        events = [("come", 1), ("back", 0), ("go", 0), ("come", 0), ("go", 1), ("go", 0), ("go", 1), ("go", 2)]
        stands = [
            ([0], [], [0, 0]),
            ([0], [(0, "plain", 1, 0)], [0, 0]),
            ([0], [(0, "plain", 1, 0), (1, "back", 0, 0)], [0, 0]),
            ([1], [(0, "plain", 0, None), (1, "back", 0, 0)], [0, 0]),
            ([1], [(0, "plain", 0, None), (1, "back", 0, 0), (2, "plain", 0, 0)], [0, 0]),
            ([0], [(0, "plain", 0, None), (1, "back", 0, None), (2, "plain", 0, 0)], [0, 0]),
            ([0], [(1, "back", 0, None), (2, "plain", 0, 0)], [1, 0]),
            ([0], [(2, "plain", 0, 0)], [0, 0]),
            ([1], [(2, "plain", 0, None)], [0, 0]),
        ]
        for many, stand in enumerate(stands):
            self.assertEqual(kinds(stand_behind(PAIR, events[:many])), kinds(stand))

    def test_the_next_switch(self):
        events = [("come", 0), ("come", 1), ("back", 2), ("go", 0)]
        expected = ([1, 0], [(0, "plain", 2, 1), (1, "plain", 1, 1), (2, "back", 2, 0)], [0, 0, 0])
        self.assertEqual(stand_behind(SHUFFLED, events), expected)
        events += [("go", 2), ("go", 0), ("go", 1)]
        expected = ([0, 0], [(0, "plain", 1, None), (1, "plain", 2, None), (2, "back", 2, 1)], [0, 0, 0])
        self.assertEqual(stand_behind(SHUFFLED, events), expected)

    def test_no_switch_on_the_wire(self):
        net = (3, ((0, 1),), (0, 1, 2))
        expected = ([0], [(0, "plain", 2, None), (1, "plain", 1, 0), (2, "back", 2, None)], [0, 0, 0])
        self.assertEqual(kinds(stand_behind(net, [("come", 2), ("come", 1), ("back", 2)])), kinds(expected))
        self.assertEqual(stand_behind(ONE, [("back", 0)]), ([], [(0, "back", 0, None)], [0]))

    def test_counts_end_by_end(self):
        net = (3, (), (2, 0, 1))
        events = [("come", 2), ("come", 2), ("back", 1), ("go", 0), ("go", 1), ("go", 2)]
        self.assertEqual(stand_behind(net, events), ([], [], [2, 0, -1]))

    def test_as_the_words_say(self):
        chance = random.Random(167)
        for net in some_nets(seed=173):
            events = some_events(chance, net, 60)
            crowd = Crowd(net)
            self.assertEqual(kinds(stand_behind(net, [])), kinds(crowd.stand()))
            for many, event in enumerate(events, 1):
                crowd.do(event)
                self.assertEqual(kinds(stand_behind(net, events[:many])), kinds(crowd.stand()))

    def test_within_rises(self):
        events = [("come", 0)] * 12 + [("go", token) for token in (7, 3, 11, 7, 0)]
        within = stand_behind(PAIR, events)[1]
        self.assertEqual([row[0] for row in within], [0, 1, 2, 3, 4, 5, 6, 8, 9, 10, 11])

    def test_lists_are_the_askers_own(self):
        events = [("come", 0), ("come", 1), ("go", 0)]
        expected = ([1], [(0, "plain", 0, None), (1, "plain", 1, 0)], [0, 0])
        first = stand_behind(PAIR, events)
        second = stand_behind(PAIR, events)
        lists = [*first, *second]
        for one, other in itertools.combinations(lists, 2):
            self.assertIsNot(one, other)
        for told in first:
            told.clear()
        self.assertEqual(second, expected)
        self.assertEqual(stand_behind(PAIR, events), expected)
        empty = stand_behind(ONE, [])
        self.assertIsNot(empty[0], empty[1])
        empty[0].append(5)
        self.assertEqual(stand_behind(ONE, []), ([], [], [0]))


class Refused(unittest.TestCase):
    def refused(self, net, events, place):
        kept = copy.deepcopy(events)
        for ask in (woven, stand_behind):
            with self.assertRaises(NoEvent) as caught:
                ask(net, events)
            self.assertIs(type(caught.exception), NoEvent)
            self.assertEqual(kinds(caught.exception.place), kinds(place))
        self.assertEqual(kinds(events), kinds(kept))

    def test_no_such_wire(self):
        for net in (ONE, PAIR, SHUFFLED, bare(16), (16, pairs(16, 160), in_order(16))):
            width = net[0]
            for wire in (width, width + 1, 17, -1, -width, SIXTY, -SIXTY):
                for word in ("come", "back"):
                    self.refused(net, [(word, wire)], 0)
                    self.refused(net, [("come", 0), ("go", 0), (word, wire), ("come", 0)], 2)
            for wire in range(width):
                self.assertEqual(woven(net, [("come", wire), ("back", wire)]), [0, 1])

    def test_no_such_token(self):
        for net in (ONE, PAIR, SHUFFLED, bare(16)):
            for token in (0, 1, -1, SIXTY, -SIXTY):
                self.refused(net, [("go", token)], 0)
            for token in (2, 3, -1, -2, SIXTY, -SIXTY):
                self.refused(net, [("come", 0), ("back", 0), ("go", token)], 2)

    def test_a_token_that_has_not_come_yet(self):
        self.refused(PAIR, [("come", 0), ("go", 1), ("come", 1)], 1)
        self.refused(PAIR, [("go", 0), ("come", 0)], 0)

    def test_a_token_that_left(self):
        self.refused(ONE, [("come", 0), ("go", 0), ("go", 0)], 2)
        self.refused(PAIR, [("come", 0), ("come", 0), ("go", 0), ("go", 0), ("go", 1), ("go", 0)], 5)
        self.refused(PAIR, [("back", 0), ("go", 0), ("go", 0), ("come", 0), ("go", 0)], 4)

    def test_the_first_of_several(self):
        self.refused(PAIR, [("come", 0), ("go", 5), ("come", 9), ("go", 7)], 1)
        self.refused(PAIR, [("come", 0), ("come", 9), ("go", 5)], 1)
        self.refused(PAIR, [("back", -1), ("come", 9), ("go", 5)], 0)
        self.refused(PAIR, [("come", 0), ("go", 0), ("go", 0), ("go", 0), ("come", 2)], 3)

    def test_a_truth_is_no_number(self):
        self.refused(PAIR, [("come", True)], 0)
        self.refused(PAIR, [("come", 0), ("back", False)], 1)
        self.refused(PAIR, [("come", 0), ("come", 0), ("go", True)], 2)

    def test_no_such_word(self):
        self.refused(PAIR, [("come", 0), ("leave", 0)], 1)

    def test_wherever_it_stands(self):
        chance = random.Random(179)
        for net in some_nets(seed=181, each=1):
            events = some_events(chance, net, 40)
            for place in range(0, 41, 3):
                crowd = Crowd(net)
                for event in events[:place]:
                    crowd.do(event)
                came = len(crowd.kinds)
                wrong = [("come", net[0]), ("back", -1), ("go", came), ("go", -1)]
                wrong += [("go", token) for token in sorted(crowd.left)]
                self.refused(net, events[:place] + [chance.choice(wrong)] + events[place:], place)


class WhateverTheWeaving(unittest.TestCase):
    """Point 3: behind a weaving, when none is within, counts alone tell the ends and the turns."""

    def check(self, chance, net, plain, back):
        width, switches, order = net
        counts = tuple(p - b for p, b in zip(plain, back))
        ends, turns = put_from(net, (0,) * len(switches), counts)
        self.assertEqual(ends, put_through(net, counts))
        for k in range(4):
            events = some_weaving(chance, net, comings(plain, back))
            self.assertEqual(stand_behind(net, events), (list(turns), [], list(ends)))
            told = woven(net, events)
            self.assertEqual(sum(1 for t in told if type(t) is tuple and t[0] == "end"), sum(plain) + sum(back))

    def test_plain_tokens(self):
        chance = random.Random(191)
        for net in some_nets(seed=193, each=2):
            plain = [chance.randrange(4) for wire in range(net[0])]
            self.check(chance, net, plain, [0] * net[0])

    def test_tokens_that_take_back(self):
        chance = random.Random(197)
        for net in some_nets(seed=199, each=2):
            self.check(chance, net, [0] * net[0], [chance.randrange(4) for wire in range(net[0])])

    def test_both(self):
        chance = random.Random(211)
        for net in some_nets(seed=223, each=2):
            plain = [chance.randrange(4) for wire in range(net[0])]
            self.check(chance, net, plain, [chance.randrange(4) for wire in range(net[0])])
            self.check(chance, net, plain, plain)

    def test_all_weavings_of_a_few(self):
        coming = [("come", 0), ("back", 1), ("come", 1)]
        seen = set()
        for row in itertools.product(range(-1, 3), repeat=9):
            if row.count(-1) != 3:
                continue
            events = []
            for k, sign in enumerate(row):
                events.append(coming[row[:k].count(-1)] if sign < 0 else ("go", sign))
            try:
                stand = stand_behind(PAIR, events)
            except NoEvent:
                continue
            self.assertEqual(stand, ([1], [], [1, 0]))
            seen.add(row)
        self.assertGreater(len(seen), 100)

    def test_a_net_that_counts_is_even_and_the_first_numbers_are_taken(self):
        net = (4, CROSSING[1] + ((0, 1), (2, 3)), (0, 1, 2, 3))
        chance = random.Random(227)
        for k in range(60):
            plain = [chance.randrange(5) for wire in range(4)]
            events = some_weaving(chance, net, comings(plain, []))
            told = woven(net, events)
            taken = sorted(t[2] for t in told if type(t) is tuple and t[0] == "end")
            self.assertEqual(taken, list(range(sum(plain))))
            self.assertEqual(stand_behind(net, events)[2], list(even_of(4, sum(plain))))


if __name__ == "__main__":
    unittest.main()
