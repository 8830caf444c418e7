import copy
import itertools
import random
import unittest

from samples import bare, kinds, one_by_one, some_counts, some_nets, some_turns
from turnfork.counts import even_of, is_even, passed, put_from, put_through, spread

PAIR = (2, ((0, 1),), (0, 1))
CROSSING = (4, ((0, 1), (2, 3), (0, 3), (1, 2)), (0, 1, 2, 3))
GREAT = 10 ** 59 + 7


def zeros(net):
    return (0,) * len(net[1])


def ones(net):
    return (1,) * len(net[1])


class PutThrough(unittest.TestCase):
    def test_one_switch(self):
        for counts, expected in (
            ((0, 0), (0, 0)),
            ((1, 0), (1, 0)),
            ((0, 1), (1, 0)),
            ((1, 1), (1, 1)),
            ((5, 0), (3, 2)),
            ((2, 4), (3, 3)),
            ((-1, 0), (0, -1)),
            ((0, -3), (-1, -2)),
            ((-2, -2), (-2, -2)),
            ((-5, 2), (-1, -2)),
            ((-5, 6), (1, 0)),
            ((GREAT, 0), (GREAT // 2 + 1, GREAT // 2)),
            ((GREAT, -GREAT), (0, 0)),
            ((-GREAT, 0), (-(GREAT // 2), -(GREAT // 2) - 1)),
        ):
            self.assertEqual(put_through(PAIR, counts), expected)
            self.assertEqual(passed(PAIR, counts), [sum(counts)])

    def test_a_switch_turned_around(self):
        self.assertEqual(put_through((2, ((1, 0),), (0, 1)), (5, 0)), (2, 3))
        self.assertEqual(put_through((2, ((1, 0),), (1, 0)), (5, 0)), (3, 2))

    def test_ends_lie_where_the_order_says(self):
        net = (3, ((0, 1),), (2, 0, 1))
        self.assertEqual(put_through(net, (3, 0, 7)), (7, 2, 1))
        self.assertEqual(put_through((3, (), (1, 2, 0)), (4, 5, 6)), (5, 6, 4))

    def test_switches_in_the_order_in_which_they_stand(self):
        self.assertEqual(put_through((3, ((0, 1), (1, 2)), (0, 1, 2)), (8, 0, 0)), (4, 2, 2))
        self.assertEqual(put_through((3, ((1, 2), (0, 1)), (0, 1, 2)), (8, 0, 0)), (4, 4, 0))
        self.assertEqual(passed((3, ((0, 1), (1, 2)), (0, 1, 2)), (8, 0, 0)), [8, 4])
        self.assertEqual(passed((3, ((1, 2), (0, 1)), (0, 1, 2)), (8, 0, 0)), [0, 8])

    def test_no_switch(self):
        for width in range(1, 17):
            counts = tuple(range(-3, width - 3))
            self.assertEqual(put_through(bare(width), counts), counts)
            self.assertEqual(passed(bare(width), counts), [])
            self.assertEqual(put_from(bare(width), (), counts), (counts, ()))

    def test_width_one(self):
        for count in (0, 1, -1, GREAT, -GREAT):
            self.assertEqual(put_through((1, (), (0,)), (count,)), (count,))
            self.assertEqual(put_from((1, (), (0,)), (), (count,)), ((count,), ()))

    def test_as_single_tokens_tell(self):
        chance = random.Random(41)
        for net in some_nets(seed=43):
            counts = some_counts(chance, net[0], 0, 6)
            ends, turns, through = one_by_one(net, zeros(net), counts)
            self.assertEqual(put_through(net, counts), ends)
            self.assertEqual(passed(net, counts), through)

    def test_one_more_on_each_wire_is_one_more_at_each_end(self):
        chance = random.Random(47)
        for net in some_nets(seed=53):
            counts = some_counts(chance, net[0])
            turns = some_turns(chance, net)
            ends, behind = put_from(net, turns, counts)
            for more in (1, -1, 30, -30, GREAT, -GREAT):
                moved = tuple(count + more for count in counts)
                expected = tuple(count + more for count in ends)
                self.assertEqual(put_from(net, turns, moved), (expected, behind))
                self.assertEqual(passed(net, moved), [n + 2 * more for n in passed(net, counts)])

    def test_the_sum_stays(self):
        chance = random.Random(59)
        for net in some_nets(seed=61):
            for high in (3, 100, GREAT):
                counts = some_counts(chance, net[0], -high, high)
                self.assertEqual(sum(put_through(net, counts)), sum(counts))
                self.assertEqual(sum(put_from(net, some_turns(chance, net), counts)[0]), sum(counts))

    def test_a_net_of_four_evens_all(self):
        net = (4, CROSSING[1] + ((0, 1), (2, 3)), (0, 1, 2, 3))
        for counts in itertools.product(range(-2, 4), repeat=4):
            self.assertEqual(put_through(net, counts), even_of(4, sum(counts)))

    def test_kinds(self):
        self.assertEqual(kinds(put_through(CROSSING, (1, 0, 0, 0))), kinds((1, 0, 0, 0)))
        self.assertEqual(kinds(passed(CROSSING, (1, 0, 0, 0))), kinds([1, 0, 1, 0]))
        self.assertEqual(kinds(put_through(bare(2), (1, 0))), kinds((1, 0)))
        self.assertEqual(kinds(passed(bare(2), (1, 0))), kinds([]))

    def test_lists_are_the_askers_own(self):
        told = passed(CROSSING, (5, 0, 0, 0))
        self.assertEqual(told, [5, 0, 3, 2])
        told.clear()
        self.assertEqual(passed(CROSSING, (5, 0, 0, 0)), [5, 0, 3, 2])
        self.assertEqual(put_through(CROSSING, (5, 0, 0, 0)), (2, 1, 1, 1))


class PutFrom(unittest.TestCase):
    def test_one_switch(self):
        for turn, counts, ends, behind in (
            (0, (0, 0), (0, 0), 0),
            (0, (3, 0), (2, 1), 1),
            (0, (1, 3), (2, 2), 0),
            (0, (-1, 0), (0, -1), 1),
            (0, (-2, 0), (-1, -1), 0),
            (1, (0, 0), (0, 0), 1),
            (1, (3, 0), (1, 2), 0),
            (1, (1, 3), (2, 2), 1),
            (1, (-1, 0), (-1, 0), 0),
            (1, (0, -3), (-2, -1), 0),
            (1, (-2, 0), (-1, -1), 1),
            (1, (GREAT, 0), (GREAT // 2, GREAT // 2 + 1), 0),
            (0, (GREAT, 1), (GREAT // 2 + 1, GREAT // 2 + 1), 0),
        ):
            self.assertEqual(put_from(PAIR, (turn,), counts), (ends, (behind,)))

    def test_mixed_turns(self):
        self.assertEqual(put_from(CROSSING, (1, 0, 0, 0), (5, 0, 0, 0)), ((1, 2, 1, 1), (0, 0, 0, 1)))
        self.assertEqual(put_from(CROSSING, (0, 0, 1, 0), (5, 0, 0, 0)), ((1, 1, 1, 2), (1, 0, 0, 0)))

    def test_turns_of_zero_tell_what_put_through_tells(self):
        chance = random.Random(67)
        for net in some_nets(seed=71):
            for counts in (some_counts(chance, net[0]), (0,) * net[0], some_counts(chance, net[0], -GREAT, GREAT)):
                ends, behind = put_from(net, zeros(net), counts)
                self.assertEqual(ends, put_through(net, counts))
                self.assertEqual(behind, tuple(n % 2 for n in passed(net, counts)))

    def test_as_single_tokens_tell(self):
        chance = random.Random(73)
        for net in some_nets(seed=79):
            counts = some_counts(chance, net[0], 0, 6)
            for turns in (zeros(net), ones(net), some_turns(chance, net)):
                self.assertEqual(put_from(net, turns, counts), one_by_one(net, turns, counts)[:2])

    def test_nothing_put_through_leaves_the_turns(self):
        chance = random.Random(83)
        for net in some_nets(seed=89):
            turns = some_turns(chance, net)
            self.assertEqual(put_from(net, turns, (0,) * net[0]), ((0,) * net[0], turns))

    def test_one_after_another_tells_what_both_together_tell(self):
        chance = random.Random(97)
        for net in some_nets(seed=101):
            turns = some_turns(chance, net)
            one, other = some_counts(chance, net[0]), some_counts(chance, net[0])
            first, between = put_from(net, turns, one)
            second, behind = put_from(net, between, other)
            both = tuple(a + b for a, b in zip(one, other))
            ends = tuple(a + b for a, b in zip(first, second))
            self.assertEqual(put_from(net, turns, both), (ends, behind))

    def test_taken_back_all_is_as_at_first(self):
        chance = random.Random(103)
        for net in some_nets(seed=107):
            turns, counts = some_turns(chance, net), some_counts(chance, net[0])
            ends, between = put_from(net, turns, counts)
            back = put_from(net, between, tuple(-count for count in counts))
            self.assertEqual(back, (tuple(-end for end in ends), turns))

    def test_kinds(self):
        told = put_from(CROSSING, (1, 0, 1, 1), (1, 0, -2, 0))
        self.assertEqual(kinds(told), kinds(((-1, 0, 0, 0), (0, 0, 0, 1))))
        self.assertEqual(kinds(put_from(bare(1), (), (4,))), kinds(((4,), ())))


class SpreadDoesNotGrow(unittest.TestCase):
    def test_by_no_net(self):
        chance = random.Random(109)
        for net in some_nets(seed=113):
            for high in (1, 9, GREAT):
                counts = some_counts(chance, net[0], -high, high)
                self.assertLessEqual(spread(put_through(net, counts)), spread(counts))
                for turns in (ones(net), some_turns(chance, net)):
                    self.assertLessEqual(spread(put_from(net, turns, counts)[0]), spread(counts))


class IsEven(unittest.TestCase):
    def told(self, counts, expected):
        self.assertIs(is_even(counts), expected, counts)

    def test_width_one(self):
        for count in (0, 1, -1, GREAT, -GREAT):
            self.told((count,), True)

    def test_plain_ones(self):
        for counts in ((0, 0), (1, 0), (-1, -2), (-2, -2), (3, 3, 2), (3, 2, 2), (GREAT, GREAT, GREAT - 1)):
            self.told(counts, True)
        for counts in ((0, 1), (2, 0), (-2, -1), (3, 2, 3), (2, 3, 2), (2, 2, 3), (3, 2, 1), (1, 0, 1, 0), (0, -2)):
            self.told(counts, False)

    def test_by_the_words_of_the_document(self):
        for width in range(1, 6):
            for counts in itertools.product(range(-2, 3), repeat=width):
                falls = all(counts[i] >= counts[j] for i in range(width) for j in range(i, width))
                self.told(counts, falls and counts[0] <= counts[-1] + 1)

    def test_even_counts_with_one_number_off(self):
        for width in range(1, 17):
            for total in range(-20, 21):
                counts = even_of(width, total)
                self.told(counts, True)
                for place, more in itertools.product(range(width), (1, -1)):
                    moved = counts[:place] + (counts[place] + more,) + counts[place + 1:]
                    self.told(moved, moved == even_of(width, total + more))

    def test_even_counts_with_two_exchanged(self):
        for width in range(2, 9):
            for total in range(-10, 11):
                counts = even_of(width, total)
                for one, other in itertools.combinations(range(width), 2):
                    parts = list(counts)
                    parts[one], parts[other] = parts[other], parts[one]
                    self.told(tuple(parts), counts[one] == counts[other])


class EvenOf(unittest.TestCase):
    def test_plain_ones(self):
        for width, total, expected in (
            (1, 0, (0,)),
            (1, -7, (-7,)),
            (2, 0, (0, 0)),
            (2, 1, (1, 0)),
            (2, -1, (0, -1)),
            (3, 5, (2, 2, 1)),
            (3, -2, (0, -1, -1)),
            (4, -4, (-1, -1, -1, -1)),
            (4, 5, (2, 1, 1, 1)),
            (16, 1, (1,) + (0,) * 15),
            (16, -1, (0,) * 15 + (-1,)),
            (2, GREAT, (GREAT // 2 + 1, GREAT // 2)),
            (1, -GREAT, (-GREAT,)),
        ):
            self.assertEqual(kinds(even_of(width, total)), kinds(expected))

    def test_even_and_of_this_sum(self):
        for width in range(1, 17):
            for total in (*range(-50, 51), GREAT, -GREAT):
                counts = even_of(width, total)
                self.assertIs(type(counts), tuple)
                self.assertEqual(len(counts), width)
                self.assertEqual(sum(counts), total)
                self.assertIs(is_even(counts), True)

    def test_there_is_just_one(self):
        for width in range(1, 5):
            every = [counts for counts in itertools.product(range(-3, 4), repeat=width) if is_even(counts)]
            for total in range(-2 * width, 2 * width + 1):
                self.assertEqual([counts for counts in every if sum(counts) == total], [even_of(width, total)])


class Spread(unittest.TestCase):
    def test_plain_ones(self):
        for counts, expected in (
            ((0,), 0),
            ((-5,), 0),
            ((3, 3), 0),
            ((1, 4), 3),
            ((4, 1), 3),
            ((-1, -4), 3),
            ((-1, 4, 2), 5),
            ((2, -GREAT, GREAT), 2 * GREAT),
        ):
            self.assertEqual(kinds(spread(counts)), kinds(expected))

    def test_any_place_of_the_greatest_and_the_least(self):
        for counts in itertools.permutations((-3, 0, 1, 8)):
            self.assertEqual(spread(counts), 11)


class SomewhatBeyond(unittest.TestCase):
    def test_wide_nets_and_many_switches(self):
        net = (18, tuple((k % 18, (k + 5) % 18) for k in range(200)), tuple(reversed(range(18))))
        counts = tuple(range(18))
        self.assertEqual(put_through(net, counts), one_by_one(net, zeros(net), counts)[0])
        self.assertEqual(put_from(net, ones(net), counts), one_by_one(net, ones(net), counts)[:2])
        self.assertEqual(sum(even_of(18, 50)), 50)

    def test_no_wire_at_all(self):
        self.assertEqual(put_through((0, (), ()), ()), ())
        self.assertEqual(even_of(0, 0), ())
        self.assertEqual(spread(()), 0)
        self.assertIs(is_even(()), True)


class NothingHangsOnWhatWasAsked(unittest.TestCase):
    def test_asked_in_another_order(self):
        chance = random.Random(127)
        asked = [(net, some_turns(chance, net), some_counts(chance, net[0])) for net in some_nets(seed=131)]
        before = copy.deepcopy(asked)

        def tell(net, turns, counts):
            ends = put_through(net, counts)
            return ends, passed(net, counts), put_from(net, turns, counts), is_even(ends), spread(ends)

        there = [tell(*question) for question in asked]
        back = [tell(*question) for question in reversed(asked)]
        self.assertEqual(there, back[::-1])
        self.assertEqual(kinds(asked), kinds(before))


if __name__ == "__main__":
    unittest.main()
