import copy
import random
import unittest

from samples import Crowd, Refusing, bare, in_order, kinds, some_events, some_net, some_nets, some_weaving
from turnfork.built import halves, mirrors, tree
from turnfork.counts import passed
from turnfork.errors import NoEvent
from turnfork.order import crossed, lacking, one_by_one, waits
from turnfork.weavings import stand_behind, woven

ONE = (1, (), (0,))
PAIR = (2, ((0, 1),), (0, 1))
# Two switches side by side, and one behind them.
THREE = (4, ((0, 1), (2, 3), (1, 2)), (0, 1, 2, 3))

# Events that are none of a net of two wires, behind the tokens 0, which left, and 1, which is within.
AHEAD = [("come", 0), ("come", 1), ("go", 0), ("go", 0)]
NO_EVENTS = [
    ("come", 2), ("come", -1), ("come", 10 ** 59), ("come", -(10 ** 59)), ("come", 16),
    ("go", 0), ("go", 2), ("go", -1), ("go", 10 ** 60 - 1), ("go", -(10 ** 59)),
]


def history(net, events):
    """For each token its coming's place, and for those that left the place and the number."""
    crowd = Crowd(net)
    came, left = {}, {}
    for place, event in enumerate(events):
        told = crowd.do(event)
        if event[0] == "go":
            if told[0] == "end":
                left[event[1]] = (place, told[2])
        else:
            came[told] = place
    return came, left


def told_crossed(net, events):
    came, left = history(net, events)
    pairs = set()
    for one in left:
        for other in left:
            if left[one][0] < came[other] and left[one][1] > left[other][1]:
                pairs.add((one, other))
    return sorted(pairs)


def told_lacking(net, events):
    came, left = history(net, events)
    return sorted(set(range(len(came))) - {number for place, number in left.values()})


def told_waits(net, events):
    crowd = Crowd(net)
    rows = [[0, 0] for switch in net[1]]
    for event in events:
        if event[0] == "go" and crowd.ahead(event[1]):
            switch = crowd.ahead(event[1])[0]
            others = [token for token in crowd.within() if token != event[1] and crowd.ahead(token)[:1] == [switch]]
            rows[switch][0] += 1
            rows[switch][1] += len(others)
        crowd.do(event)
    return [tuple(row) for row in rows]


def lagging(chance, net, many):
    """Events in which tokens come and go to their ends, while some wait midway for long."""
    crowd = Crowd(net)
    coming = many
    events = []
    while coming or crowd.within():
        within = crowd.within()
        if coming and (not within or chance.randrange(10) < 2):
            events.append(("come", chance.randrange(net[0])))
            coming -= 1
        else:
            events.append(("go", max(within) if chance.randrange(8) else chance.choice(within)))
        crowd.do(events[-1])
    return events


class Asking(Refusing):
    def asks(self, ask, net, events, expected):
        before = copy.deepcopy(events)
        told = ask(net, events)
        self.assertEqual(kinds(told), kinds(expected), events)
        self.assertEqual(kinds(events), kinds(before))
        again = ask(net, events)
        self.assertEqual(again, told)
        self.assertIsNot(again, told)
        told.append("mine")
        self.assertEqual(kinds(ask(net, events)), kinds(expected))
        self.assertEqual(kinds(again), kinds(expected))

    def refuses(self, ask):
        for place, event in [(4, event) for event in NO_EVENTS]:
            for behind in ([], [("come", 0)], [("come", 7)]):
                events = AHEAD + [event] + behind
                before = copy.deepcopy(events)
                refusal = self.refused(NoEvent, ask, PAIR, events)
                self.assertEqual(kinds(refusal.place), kinds(place))
                self.assertEqual(events, before)
        for net in (ONE, PAIR, THREE, bare(16)):
            for event in (("go", 0), ("come", net[0]), ("come", -1)):
                self.assertEqual(self.refused(NoEvent, ask, net, [event]).place, 0)
        # Right behind the comings the token is within, right behind its leaving it isn't.
        self.assertEqual(self.refused(NoEvent, ask, ONE, [("come", 0), ("go", 0), ("go", 0)]).place, 2)
        self.assertEqual(self.refused(NoEvent, ask, PAIR, [("come", 0), ("go", 0), ("go", 0), ("go", 0)]).place, 3)


class Crossed(Asking):
    def test_no_events(self):
        for net in (ONE, PAIR, THREE, halves(16)):
            self.asks(crossed, net, [], [])

    def test_one_after_another(self):
        for net in (ONE, PAIR, halves(4), mirrors(8)):
            events = []
            for token in range(9):
                events += one_by_one_of(net, token, 0)
            self.asks(crossed, net, events, [])

    def test_one_that_leaves_ahead_with_a_greater_number(self):
        # Token 0 stands behind the switch while token 1 takes 1 and, later, token 2 takes 0.
        events = [("come", 0), ("come", 0), ("go", 0), ("go", 1), ("go", 1), ("come", 1), ("go", 2), ("go", 2)]
        self.assertEqual(woven(PAIR, events)[4:], [("end", 1, 1), 2, ("switch", 0, 0), ("end", 0, 0)])
        self.asks(crossed, PAIR, events, [(1, 2)])
        # Token 0 came ahead of token 1's leaving, so it is not crossed with it, whatever it takes.
        self.asks(crossed, PAIR, events + [("go", 0)], [(1, 2)])
        # Without its last going token 2 took no number.
        self.asks(crossed, PAIR, events[:-1], [])
        # Ahead of token 1's leaving, token 2 isn't crossed with it.
        early = [("come", 0), ("come", 0), ("go", 0), ("go", 1), ("come", 1), ("go", 1), ("go", 2), ("go", 2)]
        self.asks(crossed, PAIR, early, [])

    def test_several(self):
        # Tokens 1, 3 and 5 leave at end 1 with 1, 3 and 5, while the others stand at the other way out.
        events = [("come", 0)] * 6 + [("go", token) for token in range(6)]
        events += [("go", 1), ("go", 3), ("go", 5)]
        events += [("come", 0), ("go", 6), ("go", 6)]
        self.asks(crossed, PAIR, events, [(1, 6), (3, 6), (5, 6)])
        events += [("come", 0), ("go", 7), ("go", 7)]
        self.asks(crossed, PAIR, events, [(1, 6), (3, 6), (5, 6)])
        events += [("come", 0), ("go", 8), ("go", 8)]
        # Token 7 took 7, tokens 3 and 5 took 3 and 5, token 8 takes 2.
        self.asks(crossed, PAIR, events, [(1, 6), (3, 6), (3, 8), (5, 6), (5, 8), (7, 8)])

    def test_without_switches(self):
        # Each end of a net without switches begins at its own number.
        events = [("come", 1), ("go", 0), ("come", 0), ("go", 1)]
        self.asks(crossed, bare(2), events, [(0, 1)])
        self.asks(crossed, bare(2), events[2:3] + [("go", 0), ("come", 1), ("go", 1)], [])

    def test_by_the_document(self):
        chance = random.Random(809)
        crossings = 0
        for net in some_nets(seed=811, each=6):
            events = some_events(chance, net, 90, ("come",))
            expected = told_crossed(net, events)
            self.asks(crossed, net, events, expected)
            crossings += len(expected)
        self.assertTrue(crossings > 200, crossings)

    def test_whole_weavings_of_nets_that_count(self):
        chance = random.Random(821)
        crossings = 0
        for net in (halves(2), halves(4), mirrors(4), halves(8), halves(16)):
            for k in range(6):
                events = lagging(chance, net, 30)
                expected = told_crossed(net, events)
                self.asks(crossed, net, events, expected)
                crossings += len(expected)
        self.assertTrue(crossings > 20, crossings)

    def test_no_event(self):
        self.refuses(crossed)


def one_by_one_of(net, token, wire):
    """One token comes and goes to its end, where all before it went likewise on this wire."""
    crowd = Crowd(net)
    for earlier in range(token):
        crowd.do(("come", wire))
        while crowd.do(("go", earlier))[0] != "end":
            pass
    events = [("come", wire)]
    crowd.do(events[0])
    told = None
    while told is None or told[0] != "end":
        told = crowd.do(("go", token))
        events.append(("go", token))
    return events


class Lacking(Asking):
    def test_no_events(self):
        for net in (ONE, PAIR, THREE, halves(16)):
            self.asks(lacking, net, [], [])

    def test_one_after_another(self):
        for net in (ONE, PAIR, halves(4), mirrors(8)):
            events = []
            for token in range(9):
                events += one_by_one_of(net, token, 0)
                self.asks(lacking, net, events, [])

    def test_tokens_within(self):
        events = [("come", 0)] * 5
        self.asks(lacking, PAIR, events, [0, 1, 2, 3, 4])
        events += [("go", 0), ("go", 1), ("go", 1)]
        self.asks(lacking, PAIR, events, [0, 2, 3, 4])
        events += [("go", 0)]
        self.asks(lacking, PAIR, events, [2, 3, 4])
        events += [("go", 2), ("go", 3), ("go", 3), ("go", 4), ("go", 4)]
        # Token 3 took 3, token 4 took 2: two ends, and token 2 still stands at the first.
        self.asks(lacking, PAIR, events, [4])
        self.asks(lacking, PAIR, events + [("go", 2)], [])

    def test_numbers_beyond_how_many_came(self):
        # All tokens leave at end 1, so they take 1, 3 and 5.
        events = []
        for token in range(3):
            events += [("come", 1), ("go", token)]
        self.asks(lacking, bare(2), events, [0, 2])
        self.asks(lacking, bare(16), [("come", 15), ("go", 0)], [0])
        self.asks(lacking, bare(2), events + [("come", 0)] * 3, [0, 2, 4])

    def test_by_the_document(self):
        chance = random.Random(823)
        for net in some_nets(seed=827, each=6):
            events = some_events(chance, net, 90, ("come",))
            for cut in (30, 60, 90):
                self.asks(lacking, net, events[:cut], told_lacking(net, events[:cut]))

    def test_as_many_as_within_in_nets_that_count(self):
        chance = random.Random(829)
        for net in (ONE, halves(2), mirrors(2), halves(4), mirrors(4), halves(8), mirrors(8), halves(16), mirrors(16)):
            for k in range(3):
                self.midway(net, some_events(chance, net, 80, ("come",)))
                comings = [("come", chance.randrange(net[0])) for token in range(20)]
                self.midway(net, some_weaving(chance, net, comings))
        for width in (1, 2, 4, 8, 16):
            self.midway(tree(width), some_weaving(chance, tree(width), [("come", 0)] * 30))

    def midway(self, net, events):
        """At any place numbers are unlike and below how many came, as many lacking as within."""
        told = woven(net, events)
        for cut in range(0, len(events) + 1, 5):
            taken = [row[2] for row in told[:cut] if type(row) is tuple and row[0] == "end"]
            came = [row for row in told[:cut] if type(row) is int]
            self.assertEqual(len(taken), len(set(taken)))
            self.assertTrue(all(0 <= number < len(came) for number in taken))
            within = stand_behind(net, events[:cut])[1]
            self.assertEqual(len(lacking(net, events[:cut])), len(within))
            self.assertEqual(len(came), len(within) + len(taken))

    def test_no_event(self):
        self.refuses(lacking)


class Waits(Asking):
    def test_no_events(self):
        self.asks(waits, PAIR, [], [(0, 0)])
        self.asks(waits, THREE, [], [(0, 0), (0, 0), (0, 0)])
        self.asks(waits, halves(16), [], [(0, 0)] * 80)

    def test_no_switches(self):
        for width in (1, 2, 16):
            self.asks(waits, bare(width), [], [])
            self.asks(waits, bare(width), [("come", 0), ("come", 0), ("go", 1), ("go", 0)], [])

    def test_ahead_of_the_same_switch(self):
        self.asks(waits, PAIR, [("come", 0)] * 9, [(0, 0)])
        self.asks(waits, PAIR, [("come", 0), ("go", 0)], [(1, 0)])
        self.asks(waits, PAIR, [("come", 0), ("come", 0), ("go", 0)], [(1, 1)])
        self.asks(waits, PAIR, [("come", 0), ("come", 1), ("go", 0)], [(1, 1)])
        self.asks(waits, PAIR, [("come", 0), ("come", 1), ("go", 1), ("go", 0)], [(2, 1)])
        self.asks(waits, PAIR, [("come", 0)] * 4 + [("go", 2), ("go", 0)], [(2, 3 + 2)])
        events = [("come", 0)] * 4 + [("go", token) for token in (3, 1, 0, 2)]
        self.asks(waits, PAIR, events, [(4, 3 + 2 + 1)])
        # Those that passed it or left stand elsewhere.
        self.asks(waits, PAIR, events + [("come", 1), ("go", 4)], [(5, 6)])
        self.asks(waits, PAIR, events + [("go", 1), ("come", 1), ("go", 4)], [(5, 6)])

    def test_those_that_take_back(self):
        self.asks(waits, PAIR, [("back", 0), ("go", 0)], [(1, 0)])
        self.asks(waits, PAIR, [("back", 0), ("come", 1), ("go", 0), ("go", 1)], [(2, 1)])
        self.asks(waits, PAIR, [("come", 0), ("back", 1), ("back", 0), ("go", 0), ("go", 2)], [(2, 3)])

    def test_tokens_elsewhere(self):
        # Tokens 0 and 1 stand ahead of switch 0, tokens 2 and 3 ahead of switch 1.
        events = [("come", 0), ("come", 1), ("come", 2), ("come", 3)]
        self.asks(waits, THREE, events + [("go", 0)], [(1, 1), (0, 0), (0, 0)])
        self.asks(waits, THREE, events + [("go", 0), ("go", 2)], [(1, 1), (1, 1), (0, 0)])
        # Token 1 goes to wire 1 and token 2 to wire 2: both stand ahead of switch 2.
        events += [("go", 0), ("go", 1), ("go", 2), ("go", 3)]
        self.asks(waits, THREE, events, [(2, 1), (2, 1), (0, 0)])
        self.asks(waits, THREE, events + [("go", 2)], [(2, 1), (2, 1), (1, 1)])
        self.asks(waits, THREE, events + [("go", 2), ("go", 1)], [(2, 1), (2, 1), (2, 1)])
        # Tokens without a switch ahead of them wait for none.
        self.asks(waits, THREE, events + [("go", 0), ("go", 3), ("go", 2)], [(2, 1), (2, 1), (1, 1)])
        # One that has another switch ahead of this one doesn't stand ahead of it yet.
        self.asks(waits, THREE, [("come", 0), ("come", 0), ("go", 0), ("go", 1), ("come", 3), ("come", 1), ("go", 1)],
                  [(2, 1), (0, 0), (1, 0)])

    def test_by_the_document(self):
        chance = random.Random(839)
        for net in some_nets(seed=853, each=5):
            for words in (("come",), ("come", "back")):
                events = some_events(chance, net, 100, words)
                self.asks(waits, net, events, told_waits(net, events))

    def test_passed_as_by_counts(self):
        chance = random.Random(857)
        for net in some_nets(seed=859, each=2):
            counts = [chance.randrange(4) for wire in range(net[0])]
            comings = [("come", wire) for wire, count in enumerate(counts) for token in range(count)]
            events = some_weaving(chance, net, comings)
            self.assertEqual([through for through, waited in waits(net, events)], passed(net, tuple(counts)))

    def test_no_event(self):
        self.refuses(waits)
        self.assertEqual(self.refused(NoEvent, waits, PAIR, [("back", 0), ("back", 2)]).place, 1)


class OneByOne(Asking):
    def test_a_few(self):
        self.asks(one_by_one, ONE, (0,), [])
        self.asks(one_by_one, ONE, (2,), [("come", 0), ("come", 0), ("go", 0), ("go", 1)])
        self.asks(one_by_one, PAIR, (0, 0), [])
        self.asks(one_by_one, PAIR, (1, 0), [("come", 0), ("go", 0), ("go", 0)])
        self.asks(one_by_one, PAIR, (0, 1), [("come", 1), ("go", 0), ("go", 0)])
        self.asks(one_by_one, PAIR, (1, 2), [
            ("come", 0), ("come", 1), ("come", 1), ("go", 0), ("go", 0), ("go", 1), ("go", 1), ("go", 2), ("go", 2),
        ])
        self.asks(one_by_one, bare(3), (1, 0, 1), [("come", 0), ("come", 2), ("go", 0), ("go", 1)])
        # The first token goes by one switch, the second one by two.
        self.asks(one_by_one, THREE, (2, 0, 0, 0), [
            ("come", 0), ("come", 0), ("go", 0), ("go", 0), ("go", 1), ("go", 1), ("go", 1),
        ])

    def test_by_the_document(self):
        chance = random.Random(863)
        for net in some_nets(seed=877):
            counts = tuple(chance.randrange(5) for wire in range(net[0]))
            self.asks(one_by_one, net, counts, self.expected(net, counts))

    def expected(self, net, counts):
        crowd = Crowd(net)
        events = [("come", wire) for wire in range(net[0]) for token in range(counts[wire])]
        for event in list(events):
            crowd.do(event)
        for token in range(sum(counts)):
            while token in crowd.within():
                events.append(("go", token))
                crowd.do(events[-1])
        return events

    def test_no_tokens(self):
        for net in some_nets(seed=881, each=1):
            self.asks(one_by_one, net, (0,) * net[0], [])

    def test_two_hundred(self):
        chance = random.Random(883)
        for net in (ONE, PAIR, halves(16), mirrors(16), bare(16), some_net(chance, 16, 160)):
            for many in (200, 220):
                counts = [0] * net[0]
                for token in range(many):
                    counts[chance.randrange(net[0])] += 1
                for some in (tuple(counts), (many,) + (0,) * (net[0] - 1), (0,) * (net[0] - 1) + (many,)):
                    events = one_by_one(net, some)
                    self.assertEqual(events, self.expected(net, some))
                    turns, within, ends = stand_behind(net, events)
                    self.assertEqual((within, sum(ends)), ([], many))

    def test_woven_takes_them_and_none_is_within(self):
        chance = random.Random(887)
        for net in some_nets(seed=907):
            counts = tuple(chance.randrange(4) for wire in range(net[0]))
            events = one_by_one(net, counts)
            told = woven(net, events)
            many = sum(counts)
            self.assertEqual(told[:many], list(range(many)))
            left = [event[1] for event, row in zip(events[many:], told[many:]) if row[0] == "end"]
            self.assertEqual(left, list(range(many)))
            self.assertEqual(stand_behind(net, events)[1], [])

    def test_no_two_lists_are_one(self):
        counts = (1, 2)
        told = [one_by_one(PAIR, counts), one_by_one(PAIR, counts)]
        told[0].clear()
        self.assertEqual(len(told[1]), 9)
        self.assertEqual(len(one_by_one(PAIR, counts)), 9)

    def test_order_of_ends_does_not_matter(self):
        self.assertEqual(one_by_one((4, THREE[1], in_order(4)[::-1]), (2, 1, 0, 1)), one_by_one(THREE, (2, 1, 0, 1)))


if __name__ == "__main__":
    unittest.main()
