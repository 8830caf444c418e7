import copy
import itertools
import random
import unittest

from samples import Crowd, bare, in_order, kinds, pairs, some_events, some_net, some_nets
from turnfork.counts import even_of, put_from
from turnfork.errors import NoToken, NoWire
from turnfork.hall import Hall
from turnfork.weavings import stand_behind, woven

ONE = (1, (), (0,))
PAIR = (2, ((0, 1),), (0, 1))
SHUFFLED = (3, ((2, 0), (1, 2)), (2, 0, 1))
SIXTY = 10 ** 60 - 1


def do(hall, event):
    word, number = event
    return {"come": hall.come, "back": hall.back, "go": hall.go}[word](number)


def hall_behind(net, events):
    hall = Hall(net)
    for event in events:
        do(hall, event)
    return hall


def goings_to_rest(net, events):
    """By the words: the goings by which all go on, and what is told of the tokens that leave."""
    crowd = Crowd(net)
    for event in events:
        crowd.do(event)
    goings = []
    left = []
    while crowd.within():
        first = crowd.within()[0]
        goings.append(("go", first))
        told = crowd.do(goings[-1])
        if told[0] == "end":
            left.append((first, told[1], told[2]))
    return goings, left


class Events(unittest.TestCase):
    def test_a_few(self):
        hall = Hall(PAIR)
        self.assertEqual(hall.come(1), 0)
        self.assertEqual(hall.back(0), 1)
        self.assertEqual(hall.go(1), ("switch", 0, 1))
        self.assertEqual(hall.go(0), ("switch", 0, 1))
        self.assertEqual(hall.come(0), 2)
        self.assertEqual(hall.go(1), ("end", 1, -1))
        self.assertEqual(hall.go(2), ("switch", 0, 0))
        self.assertEqual(hall.go(2), ("end", 0, 0))
        self.assertEqual(hall.go(0), ("end", 1, -1))
        self.assertEqual(hall.stand(), ([1], [], [1, 0]))
        self.assertEqual(hall.come(0), 3)

    def test_as_woven_event_by_event(self):
        chance = random.Random(229)
        for net in some_nets(seed=233):
            events = some_events(chance, net, 60)
            hall = Hall(net)
            self.assertEqual(kinds([do(hall, event) for event in events]), kinds(woven(net, events)))

    def test_the_stand_as_behind_events(self):
        chance = random.Random(239)
        for net in some_nets(seed=241):
            events = some_events(chance, net, 40)
            hall = Hall(net)
            self.assertEqual(kinds(hall.stand()), kinds(stand_behind(net, [])))
            for many, event in enumerate(events, 1):
                do(hall, event)
                self.assertEqual(kinds(hall.stand()), kinds(stand_behind(net, events[:many])))

    def test_two_halls_of_one_net_by_turns(self):
        chance = random.Random(251)
        for net in some_nets(seed=257, each=2):
            rows = [some_events(chance, net, 30), some_events(chance, net, 30)]
            halls = [Hall(net), Hall(net)]
            told = [[], []]
            for k in range(30):
                for one in (0, 1):
                    told[one].append(do(halls[one], rows[one][k]))
            for one in (0, 1):
                self.assertEqual(told[one], woven(net, rows[one]))
                self.assertEqual(halls[one].stand(), stand_behind(net, rows[one]))
            halls[0].rest()
            self.assertEqual(halls[1].stand(), stand_behind(net, rows[1]))

    def test_asking_changes_nothing(self):
        chance = random.Random(263)
        for net in some_nets(seed=269, each=1):
            events = some_events(chance, net, 30)
            hall = Hall(net)
            told = []
            for event in events:
                self.assertEqual(hall.stand(), hall.stand())
                self.assertEqual(hall.numbers(), hall.numbers())
                told.append(do(hall, event))
            self.assertEqual(told, woven(net, events))

    def test_the_methods_stand_in_the_class(self):
        for name in ("come", "back", "go", "stand", "numbers", "rest"):
            self.assertIn(name, vars(Hall))

    def test_somewhat_beyond_the_limits(self):
        chance = random.Random(271)
        for net in (some_net(chance, 18, 170), (4, pairs(4, 200), in_order(4))):
            events = some_events(chance, net, 100)
            hall = hall_behind(net, events)
            self.assertEqual(hall.stand(), stand_behind(net, events))
            self.assertEqual(hall.rest(), goings_to_rest(net, events)[1])


class Refused(unittest.TestCase):
    def refused(self, hall, event, error):
        stand, numbers = copy.deepcopy(hall.stand()), list(hall.numbers())
        with self.assertRaises(error) as caught:
            do(hall, event)
        self.assertIs(type(caught.exception), error)
        self.assertEqual(hall.stand(), stand)
        self.assertEqual(hall.numbers(), numbers)

    def test_no_wire(self):
        for net in (ONE, PAIR, SHUFFLED, bare(16), (16, pairs(16, 160), in_order(16))):
            width = net[0]
            hall = Hall(net)
            for token, word in enumerate(("come", "back", "come")):
                for wire in (width, width + 1, 17, -1, -width, SIXTY, -SIXTY):
                    self.refused(hall, ("come", wire), NoWire)
                    self.refused(hall, ("back", wire), NoWire)
                self.assertEqual(do(hall, (word, width - 1)), token)

    def test_no_token(self):
        hall = Hall(PAIR)
        for token in (0, 1, -1, SIXTY, -SIXTY):
            self.refused(hall, ("go", token), NoToken)
        hall.come(0)
        hall.back(1)
        for token in (2, -1, -2, SIXTY, -SIXTY):
            self.refused(hall, ("go", token), NoToken)
        hall.go(0)
        hall.go(0)
        self.refused(hall, ("go", 0), NoToken)
        self.assertEqual(hall.go(1), ("switch", 0, 0))
        self.assertEqual(hall.go(1), ("end", 0, 0))
        self.refused(hall, ("go", 1), NoToken)
        self.assertEqual(hall.come(0), 2)

    def test_a_truth_is_no_number(self):
        hall = Hall(PAIR)
        hall.come(0)
        hall.come(1)
        for truth in (False, True):
            self.refused(hall, ("come", truth), NoWire)
            self.refused(hall, ("back", truth), NoWire)
            self.refused(hall, ("go", truth), NoToken)

    def test_none_within_after_rest(self):
        hall = Hall(PAIR)
        hall.come(0)
        hall.come(0)
        hall.rest()
        self.refused(hall, ("go", 0), NoToken)
        self.refused(hall, ("go", 1), NoToken)
        self.assertEqual(hall.back(0), 2)

    def test_later_events_tell_the_same(self):
        chance = random.Random(277)
        for net in some_nets(seed=281, each=2):
            events = some_events(chance, net, 40)
            hall = Hall(net)
            left = [-1]
            told = []
            for event in events:
                wire = chance.choice([net[0], net[0] + 5, -1, SIXTY, -SIXTY])
                self.refused(hall, (chance.choice(["come", "back"]), wire), NoWire)
                token = chance.choice(left + [sum(1 for t in told if type(t) is int), SIXTY])
                self.refused(hall, ("go", token), NoToken)
                told.append(do(hall, event))
                if type(told[-1]) is tuple and told[-1][0] == "end":
                    left.append(event[1])
            self.assertEqual(told, woven(net, events))


class Numbers(unittest.TestCase):
    def test_none_at_first(self):
        for net in some_nets(seed=283, each=1):
            self.assertEqual(kinds(Hall(net).numbers()), kinds([]))

    def test_those_within_have_none(self):
        hall = Hall(PAIR)
        hall.come(0)
        self.assertEqual(hall.numbers(), [])
        hall.go(0)
        self.assertEqual(hall.numbers(), [])
        hall.go(0)
        self.assertEqual(kinds(hall.numbers()), kinds([0]))

    def test_counts_of_zero_above_and_below(self):
        # Counts come to be 3, 0, -2, 1 at the ends, which lie at the wires 2, 0, 3, 1.
        hall = Hall((4, (), (2, 0, 3, 1)))
        for word, wire in [("come", 2)] * 3 + [("back", 3)] * 2 + [("come", 1), ("come", 0), ("back", 0)]:
            do(hall, ("go", do(hall, (word, wire))))
        self.assertEqual(hall.stand()[2], [3, 0, -2, 1])
        self.assertEqual(kinds(hall.numbers()), kinds([0, 3, 4, 8]))

    def test_all_below_zero(self):
        hall = Hall(PAIR)
        for k in range(5):
            hall.back(0)
        hall.rest()
        self.assertEqual(hall.stand()[2], [-2, -3])
        self.assertEqual(hall.numbers(), [])

    def test_as_the_words_say(self):
        chance = random.Random(293)
        for net in some_nets(seed=307):
            for words in (("come",), ("come", "back"), ("come", "come", "come", "back")):
                hall, crowd = Hall(net), Crowd(net)
                for event in some_events(chance, net, 60, words):
                    do(hall, event)
                    crowd.do(event)
                    self.assertEqual(kinds(hall.numbers()), kinds(crowd.numbers()))

    def test_plain_tokens_took_them(self):
        chance = random.Random(311)
        for net in some_nets(seed=313, each=2):
            events = some_events(chance, net, 80, ("come",))
            taken = [t[2] for t in woven(net, events) if type(t) is tuple and t[0] == "end"]
            self.assertEqual(hall_behind(net, events).numbers(), sorted(taken))

    def test_lists_are_the_askers_own(self):
        hall = Hall(ONE)
        hall.come(0)
        hall.come(0)
        hall.rest()
        told = hall.numbers()
        again = hall.numbers()
        self.assertIsNot(told, again)
        told.reverse()
        self.assertEqual(again, [0, 1])
        self.assertEqual(hall.numbers(), [0, 1])
        hall.back(0)
        hall.rest()
        self.assertEqual(again, [0, 1])
        self.assertEqual(hall.numbers(), [0])


class Rest(unittest.TestCase):
    def test_none_within(self):
        for net in some_nets(seed=317, each=1):
            hall = Hall(net)
            self.assertEqual(kinds(hall.rest()), kinds([]))
            self.assertEqual(hall.stand(), stand_behind(net, []))
            self.assertEqual(hall.come(0), 0)

    def test_some_within(self):
        hall = Hall(PAIR)
        for wire in (1, 0, 1):
            hall.come(wire)
        hall.go(2)
        self.assertEqual(kinds(hall.rest()), kinds([(0, 1, 1), (1, 0, 0), (2, 0, 2)]))
        self.assertEqual(hall.stand(), ([1], [], [2, 1]))
        self.assertEqual(hall.rest(), [])
        self.assertEqual(hall.come(0), 3)
        self.assertEqual(hall.rest(), [(3, 1, 3)])

    def test_some_that_take_back(self):
        hall = Hall(PAIR)
        hall.back(0)
        hall.come(0)
        hall.come(1)
        hall.back(1)
        hall.back(1)
        self.assertEqual(hall.rest(), [(0, 1, -1), (1, 1, -1), (2, 0, 0), (3, 0, 0), (4, 1, -1)])
        self.assertEqual(hall.stand(), ([1], [], [0, -1]))

    def test_the_first_goes_all_the_way_ahead_of_the_next(self):
        # One after another they take 0 and 1 and the first is through both switches ahead.
        net = (2, ((0, 1), (0, 1)), (0, 1))
        hall = Hall(net)
        hall.come(0)
        hall.come(0)
        hall.go(1)
        self.assertEqual(hall.stand(), ([1, 0], [(0, "plain", 0, 0), (1, "plain", 0, 1)], [0, 0]))
        self.assertEqual(hall.rest(), [(0, 0, 0), (1, 1, 1)])

    def test_as_the_words_say(self):
        chance = random.Random(331)
        for net in some_nets(seed=337):
            for words in (("come",), ("come", "back")):
                events = some_events(chance, net, 50, words)
                goings, left = goings_to_rest(net, events)
                hall = hall_behind(net, events)
                self.assertEqual(kinds(hall.rest()), kinds(left))
                self.assertEqual(hall.stand(), stand_behind(net, events + goings))
                self.assertEqual(hall.stand()[1], [])

    def test_events_behind_it(self):
        chance = random.Random(347)
        for net in some_nets(seed=349, each=2):
            events = some_events(chance, net, 20)
            goings, left = goings_to_rest(net, events)
            hall = hall_behind(net, events)
            hall.rest()
            came = sum(1 for word, number in events if word != "go")
            later = []
            for word, number in some_events(chance, net, 20):
                later.append((word, number + came if word == "go" else number))
            # The turns differ behind rest, so a token may leave sooner or later than it did.
            crowd = Crowd(net)
            for event in events + goings:
                crowd.do(event)
            for event in later:
                if event[0] == "go" and event[1] not in crowd.within():
                    with self.assertRaises(NoToken):
                        do(hall, event)
                else:
                    self.assertEqual(do(hall, event), crowd.do(event))

    def test_counts_alone_tell_the_end(self):
        chance = random.Random(353)
        for net in some_nets(seed=359):
            events = some_events(chance, net, 60)
            hall = hall_behind(net, events)
            hall.rest()
            counts = [0] * net[0]
            for word, number in events:
                if word != "go":
                    counts[number] += 1 if word == "come" else -1
            ends, turns = put_from(net, (0,) * len(net[1]), tuple(counts))
            self.assertEqual(hall.stand(), (list(turns), [], list(ends)))

    def test_a_net_that_counts_takes_the_first_numbers(self):
        net = (4, ((0, 1), (2, 3), (0, 3), (1, 2), (0, 1), (2, 3)), (0, 1, 2, 3))
        chance = random.Random(367)
        for many in range(20):
            hall = Hall(net)
            for k in range(many):
                hall.come(chance.randrange(4))
            told = hall.rest()
            self.assertEqual([token for token, end, number in told], list(range(many)))
            self.assertEqual(hall.numbers(), list(range(many)))
            self.assertEqual(hall.stand()[2], list(even_of(4, many)))

    def test_many_tokens(self):
        hall = Hall((16, pairs(16, 160), in_order(16)))
        for k in range(1500):
            hall.come(k % 16)
        self.assertEqual([row[0] for row in hall.rest()], list(range(1500)))

    def test_lists_are_the_askers_own(self):
        hall = Hall(PAIR)
        empty = hall.rest()
        empty.append(9)
        self.assertEqual(hall.rest(), [])
        hall.come(0)
        told = hall.rest()
        hall.come(0)
        hall.rest()
        self.assertEqual(told, [(0, 0, 0)])
        told.clear()
        self.assertEqual(hall.stand(), ([0], [], [1, 1]))


class Stand(unittest.TestCase):
    def test_told_lists_that_are_changed_change_nothing(self):
        hall = Hall(PAIR)
        hall.come(0)
        hall.come(1)
        hall.go(0)
        expected = ([1], [(0, "plain", 0, None), (1, "plain", 1, 0)], [0, 0])
        first, second = hall.stand(), hall.stand()
        for one, other in itertools.combinations([*first, *second], 2):
            self.assertIsNot(one, other)
        first[0][0] = 0
        first[1].reverse()
        first[2][0] = 9
        self.assertEqual(second, expected)
        self.assertEqual(hall.stand(), expected)
        for told in second:
            told.clear()
        self.assertEqual(hall.stand(), expected)
        self.assertEqual(hall.go(1), ("switch", 0, 1))
        self.assertEqual(hall.go(0), ("end", 0, 0))

    def test_told_lists_that_are_kept_stay(self):
        chance = random.Random(373)
        for net in some_nets(seed=379, each=1):
            hall = Hall(net)
            kept = []
            for event in some_events(chance, net, 30):
                stand, numbers = hall.stand(), hall.numbers()
                kept.append((stand, numbers, copy.deepcopy(stand), list(numbers)))
                do(hall, event)
            hall.rest()
            for stand, numbers, stand_then, numbers_then in kept:
                self.assertEqual(stand, stand_then)
                self.assertEqual(numbers, numbers_then)

    def test_kinds(self):
        hall = Hall(SHUFFLED)
        hall.back(2)
        hall.come(1)
        hall.go(1)
        expected = ([0, 1], [(0, "back", 2, 0), (1, "plain", 1, None)], [0, 0, 0])
        self.assertEqual(kinds(hall.stand()), kinds(expected))


if __name__ == "__main__":
    unittest.main()
