import itertools
import random
import unittest

from samples import Refusing, bare, in_order, kinds, pairs, shuffled, some_counts, some_net, some_nets, some_turns
from turnfork.counts import passed, put_from, put_through
from turnfork.errors import TooGreat
from turnfork.nets import is_net
from turnfork.together import behind, beside, renamed

ONE = (1, (), (0,))
PAIR = (2, ((0, 1),), (0, 1))
SHUFFLED = (3, ((2, 0), (1, 2)), (2, 0, 1))


def leading_back(wires):
    """The names that lead back from these."""
    return tuple(wires.index(wire) for wire in range(len(wires)))


def wide(width, many):
    return (width, pairs(width, many), in_order(width)[::-1])


class Same(Refusing):
    def same(self, told, expected):
        self.assertEqual(kinds(told), kinds(expected))
        self.assertIs(is_net(told), True)


class Beside(Same):
    def test_a_few(self):
        self.same(beside(ONE, ONE), (2, (), (0, 1)))
        self.same(beside(PAIR, ONE), (3, ((0, 1),), (0, 1, 2)))
        self.same(beside(ONE, PAIR), (3, ((1, 2),), (0, 1, 2)))
        self.same(beside(PAIR, SHUFFLED), (5, ((0, 1), (4, 2), (3, 4)), (0, 1, 4, 2, 3)))
        self.same(beside(SHUFFLED, PAIR), (5, ((2, 0), (1, 2), (3, 4)), (2, 0, 1, 3, 4)))
        self.same(beside((2, (), (1, 0)), (2, ((1, 0),), (1, 0))), (4, ((3, 2),), (1, 0, 3, 2)))

    def test_counts_go_through_each(self):
        chance = random.Random(401)
        nets = [net for net in some_nets(seed=409) if net[0] <= 8]
        for k in range(150):
            one, other = chance.choice(nets), chance.choice(nets)
            first, second = some_counts(chance, one[0]), some_counts(chance, other[0])
            both = beside(one, other)
            self.assertIs(is_net(both), True)
            self.assertEqual(put_through(both, first + second), put_through(one, first) + put_through(other, second))
            self.assertEqual(passed(both, first + second), passed(one, first) + passed(other, second))

    def test_three_are_put_beside_either_way(self):
        chance = random.Random(419)
        nets = [net for net in some_nets(seed=421) if net[0] <= 5]
        for k in range(50):
            one, two, three = [chance.choice(nets) for k in range(3)]
            self.same(beside(one, beside(two, three)), beside(beside(one, two), three))

    def test_just_as_great_as_may_be(self):
        for width in range(1, 16):
            self.same(beside(bare(width), bare(16 - width)), bare(16))
        both = beside(wide(8, 80), wide(8, 80))
        self.assertEqual((both[0], len(both[1])), (16, 160))
        self.assertIs(is_net(both), True)
        both = beside(wide(2, 160), bare(14))
        self.assertEqual((both[0], len(both[1])), (16, 160))
        switches = tuple((a + 1, b + 1) for a, b in pairs(15, 160))
        self.same(beside(ONE, wide(15, 160)), (16, switches, (0,) + in_order(16)[:0:-1]))

    def test_too_great(self):
        for width in range(1, 17):
            self.refused(TooGreat, beside, bare(width), bare(17 - width))
        self.refused(TooGreat, beside, bare(16), bare(16))
        self.refused(TooGreat, beside, wide(2, 80), wide(2, 81))
        self.refused(TooGreat, beside, wide(2, 160), wide(2, 1))
        self.refused(TooGreat, beside, wide(2, 1), wide(2, 160))
        self.refused(TooGreat, beside, wide(2, 160), wide(2, 160))
        self.refused(TooGreat, beside, wide(9, 100), wide(8, 61))
        self.refused(TooGreat, beside, wide(16, 160), wide(16, 160))

    def test_somewhat_beyond_the_limits(self):
        self.refused(TooGreat, beside, bare(17), ONE)
        self.refused(TooGreat, beside, wide(2, 170), ONE)


class Behind(Same):
    def test_a_few(self):
        self.same(behind(ONE, ONE), ONE)
        self.same(behind(PAIR, PAIR), (2, ((0, 1), (0, 1)), (0, 1)))
        self.same(behind((2, (), (1, 0)), PAIR), (2, ((1, 0),), (1, 0)))
        self.same(behind(PAIR, (2, (), (1, 0))), (2, ((0, 1),), (1, 0)))
        self.same(behind((2, ((0, 1),), (1, 0)), (2, ((0, 1),), (1, 0))), (2, ((0, 1), (1, 0)), (0, 1)))
        # End 0 of the first is its wire 2, end 1 its wire 0, end 2 its wire 1.
        other = (3, ((0, 1), (2, 0)), (1, 0, 2))
        self.same(behind(SHUFFLED, other), (3, ((2, 0), (1, 2), (2, 0), (1, 2)), (0, 2, 1)))
        self.same(behind(SHUFFLED, SHUFFLED), (3, ((2, 0), (1, 2), (1, 2), (0, 1)), (1, 2, 0)))

    def test_no_switch(self):
        for width in range(1, 17):
            self.same(behind(bare(width), bare(width)), bare(width))

    def test_a_bare_net_changes_nothing(self):
        for net in some_nets(seed=431):
            self.same(behind(net, bare(net[0])), net)
            self.same(behind(bare(net[0]), net), net)

    def test_counts_go_through_the_first_and_then_the_second(self):
        chance = random.Random(433)
        for width in range(1, 17):
            for k in range(12):
                one = some_net(chance, width, chance.randrange(40))
                other = some_net(chance, width, chance.randrange(40))
                counts = some_counts(chance, width)
                both = behind(one, other)
                self.assertIs(is_net(both), True)
                between = put_through(one, counts)
                self.assertEqual(put_through(both, counts), put_through(other, between))
                self.assertEqual(passed(both, counts), passed(one, counts) + passed(other, between))
                turns, later_turns = some_turns(chance, one), some_turns(chance, other)
                ends, turns_behind = put_from(one, turns, counts)
                last, later_behind = put_from(other, later_turns, ends)
                self.assertEqual(put_from(both, turns + later_turns, counts), (last, turns_behind + later_behind))

    def test_three_are_put_behind_either_way(self):
        chance = random.Random(439)
        for width in range(1, 17):
            one, two, three = [some_net(chance, width, 20) for k in range(3)]
            self.same(behind(one, behind(two, three)), behind(behind(one, two), three))

    def test_just_as_great_as_may_be(self):
        for width in (2, 3, 15, 16):
            for many in (0, 1, 80, 159, 160):
                both = behind(wide(width, many), wide(width, 160 - many))
                self.assertEqual((both[0], len(both[1])), (width, 160))
                self.assertIs(is_net(both), True)

    def test_too_great(self):
        for width in (2, 3, 15, 16):
            for many in (1, 80, 81, 160):
                self.refused(TooGreat, behind, wide(width, many), wide(width, 161 - many))
            self.refused(TooGreat, behind, wide(width, 160), wide(width, 160))

    def test_somewhat_beyond_the_limits(self):
        self.refused(TooGreat, behind, bare(17), bare(17))
        self.refused(TooGreat, behind, wide(17, 100), wide(17, 100))
        self.refused(TooGreat, behind, wide(4, 161), bare(4))


class Renamed(Same):
    def test_a_few(self):
        self.same(renamed(ONE, (0,)), ONE)
        self.same(renamed(PAIR, (1, 0)), (2, ((1, 0),), (1, 0)))
        self.same(renamed(SHUFFLED, (1, 2, 0)), (3, ((0, 1), (2, 0)), (0, 1, 2)))
        self.same(renamed(SHUFFLED, (2, 0, 1)), (3, ((1, 2), (0, 1)), (1, 2, 0)))
        self.same(renamed(bare(3), (1, 2, 0)), (3, (), (1, 2, 0)))

    def test_their_own_names(self):
        for net in some_nets(seed=443):
            self.same(renamed(net, in_order(net[0])), net)

    def test_the_names_that_lead_back(self):
        chance = random.Random(449)
        for net in some_nets(seed=457):
            wires = shuffled(chance, net[0])
            told = renamed(net, wires)
            self.assertIs(is_net(told), True)
            self.same(renamed(told, leading_back(wires)), net)

    def test_counts_on_the_wires_as_renamed(self):
        chance = random.Random(461)
        for net in some_nets(seed=463):
            wires = shuffled(chance, net[0])
            counts = some_counts(chance, net[0])
            moved = [0] * net[0]
            for wire, count in enumerate(counts):
                moved[wires[wire]] = count
            told = renamed(net, wires)
            self.assertEqual(put_through(told, tuple(moved)), put_through(net, counts))
            self.assertEqual(passed(told, tuple(moved)), passed(net, counts))

    def test_all_names_of_three_wires(self):
        for wires in itertools.permutations(range(3)):
            expected = (3, ((wires[2], wires[0]), (wires[1], wires[2])), (wires[2], wires[0], wires[1]))
            self.same(renamed(SHUFFLED, wires), expected)

    def test_just_as_great_as_may_be(self):
        wires = in_order(16)[::-1]
        told = renamed(wide(16, 160), wires)
        self.same(told, (16, tuple((15 - a, 15 - b) for a, b in pairs(16, 160)), in_order(16)))

    def test_too_great(self):
        self.refused(TooGreat, renamed, bare(17), in_order(17))
        self.refused(TooGreat, renamed, wide(4, 161), in_order(4))
        self.refused(TooGreat, renamed, wide(17, 161), in_order(17))


class Together(Same):
    def test_what_is_handed_in_stays_and_nothing_hangs_on_what_was_asked(self):
        chance = random.Random(467)
        asked = [(some_net(chance, 6, 20), some_net(chance, 6, 20), shuffled(chance, 6)) for k in range(20)]
        first = [(beside(one, other), behind(one, other), renamed(one, wires)) for one, other, wires in asked]
        self.refused(TooGreat, beside, bare(9), bare(8))
        last = [(beside(one, other), behind(one, other), renamed(one, wires)) for one, other, wires in asked[::-1]]
        self.assertEqual(first, last[::-1])

    def test_one_beside_another_by_names_is_the_other_beside_the_one(self):
        one, other = SHUFFLED, PAIR
        both = renamed(beside(one, other), (2, 3, 4, 0, 1))
        self.assertEqual((both[1][2:] + both[1][:2], both[2][3:] + both[2][:3]), beside(other, one)[1:])


if __name__ == "__main__":
    unittest.main()
