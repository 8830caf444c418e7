import itertools
import random
import unittest

from samples import Refusing, bare, in_order, kinds, layered, one_by_one, shuffled, some_net, stands_even
from turnfork.built import cross, halves, joiner, mirrors, tree
from turnfork.counts import put_through
from turnfork.errors import TooGreat
from turnfork.judged import judged, sorts
from turnfork.nets import depth
from turnfork.together import beside, behind, renamed

# They sort, so counts of 0 and 1 do not show that they don't count.
BUBBLES = (3, ((0, 1), (0, 2), (1, 2)), (0, 1, 2))
ODD_AND_EVEN = (4, ((0, 1), (2, 3), (0, 2), (1, 3), (1, 2)), (0, 1, 2, 3))
# Only counts of 3 or more on some wire show that it doesn't count.
LATE = (3, ((0, 1), (0, 2), (0, 1), (1, 2)), (0, 1, 2))
# The cross with mirrors behind it, another net of four wires that counts.
CROSSED = (4, ((0, 1), (2, 3), (0, 2), (1, 3), (0, 3), (1, 2)), (0, 1, 2, 3))


def ends_of(net, counts):
    """The counts at the ends, told by single tokens."""
    return one_by_one(net, (0,) * len(net[1]), counts)[0]


def all_counts(width, most):
    return itertools.product(range(most + 1), repeat=width)


def in_one_row(width, deep):
    """A net of so many layers, one switch each."""
    return (width, ((0, 1),) * deep, in_order(width))


class Judged(Refusing):
    def counts(self, net):
        self.assertEqual(kinds(judged(net)), kinds(("counts",)), net)

    def off(self, net):
        told = judged(net)
        self.assertIs(type(told), tuple)
        self.assertEqual((len(told), told[0]), (2, "off"), net)
        counts = told[1]
        self.assertIs(type(counts), tuple)
        self.assertEqual([type(count) for count in counts], [int] * net[0])
        self.assertTrue(all(0 <= count <= 2 * 2 ** depth(net) for count in counts), (net, counts))
        self.assertFalse(stands_even(ends_of(net, counts)), (net, counts))
        self.assertFalse(stands_even(put_through(net, counts)), (net, counts))

    def test_nets_of_halves(self):
        for width in (1, 2, 4):
            self.counts(halves(width))
            for wires in itertools.permutations(range(width)):
                self.counts(renamed(halves(width), wires))

    def test_other_nets_that_count(self):
        self.counts(CROSSED)
        self.counts((1, (), (0,)))
        self.counts((2, ((1, 0),), (1, 0)))
        self.counts(mirrors(2))
        self.counts(cross(2))
        self.counts(tree(2))
        self.counts(joiner(2))
        for deep in range(1, 7):
            self.counts(in_one_row(2, deep))

    def test_nets_without_switches(self):
        for width in range(2, 17):
            self.off(bare(width))
            self.off((width, (), in_order(width)[::-1]))

    def test_only_more_than_one_on_a_wire_shows_it(self):
        for net in (BUBBLES, ODD_AND_EVEN):
            self.assertTrue(all(stands_even(ends_of(net, counts)) for counts in all_counts(net[0], 1)))
            self.off(net)

    def test_only_great_counts_show_it(self):
        self.assertTrue(all(stands_even(ends_of(LATE, counts)) for counts in all_counts(3, 2)))
        self.off(LATE)

    def test_only_counts_on_several_wires_show_it(self):
        for wire in range(4):
            for count in range(9):
                ends = ends_of(cross(4), tuple(count if at == wire else 0 for at in range(4)))
                self.assertTrue(stands_even(ends), ends)
        self.off(cross(4))

    def test_switched_ends_and_sides(self):
        for order in itertools.permutations((0, 1, 2, 3)):
            net = (4, halves(4)[1], order)
            (self.counts if order == halves(4)[2] else self.off)(net)
        self.off((2, ((0, 1),), (1, 0)))
        self.off((2, ((1, 0),), (0, 1)))
        for place in range(6):
            switches = halves(4)[1]
            a, b = switches[place]
            self.off((4, switches[:place] + ((b, a),) + switches[place + 1:], halves(4)[2]))

    def test_a_switch_less(self):
        switches = halves(4)[1]
        for place in range(6):
            self.off((4, switches[:place] + switches[place + 1:], halves(4)[2]))

    def test_nets_beside_one_another(self):
        self.off(beside(halves(2), halves(2)))
        self.off(beside(halves(2), bare(1)))
        self.off(beside(bare(3), halves(2)))

    def test_three_wires_never_count(self):
        chance = random.Random(601)
        for k in range(60):
            net = some_net(chance, 3, chance.randrange(5))
            self.off(net)

    def test_just_small(self):
        for width, deep in ((2, 6), (3, 4), (4, 3), (6, 2), (12, 1)):
            net = in_one_row(width, deep)
            self.assertEqual(net[0] * depth(net), 12)
            (self.counts if width == 2 else self.off)(net)
        chance = random.Random(607)
        for width, deep in ((3, 4), (4, 3), (6, 2), (12, 1), (5, 2), (11, 1)):
            for k in range(20):
                net = layered(chance, width, deep)
                if judged(net) != ("counts",):
                    self.off(net)

    def test_no_longer_small(self):
        for width, deep in ((13, 1), (2, 7), (7, 2), (14, 1), (3, 5), (5, 3), (15, 1), (4, 4), (16, 1), (8, 2), (9, 2)):
            net = in_one_row(width, deep)
            self.assertEqual(depth(net), deep)
            self.refused(TooGreat, judged, net)
        self.refused(TooGreat, judged, halves(8))
        self.refused(TooGreat, judged, mirrors(4))
        self.refused(TooGreat, judged, halves(16))
        self.refused(TooGreat, judged, in_one_row(2, 160))
        self.refused(TooGreat, judged, some_net(random.Random(613), 16, 160))

    def test_somewhat_beyond_the_limits(self):
        self.off(bare(17))
        self.refused(TooGreat, judged, in_one_row(2, 161))

    def test_each_way_by_all_counts(self):
        chance = random.Random(617)
        found = {"counts": 0, "off": 0}
        for k in range(250):
            width = chance.choice((1, 2, 2, 3, 4))
            deep = chance.randrange(0, 3 if width < 4 else 2)
            net = layered(chance, width, deep)
            told = judged(net)
            every = all(stands_even(put_through(net, counts)) for counts in all_counts(width, 2 * 2 ** depth(net)))
            self.assertEqual(told == ("counts",), every, net)
            found[told[0]] += 1
            if not every:
                self.off(net)
        self.assertTrue(min(found.values()) > 30, found)

    def test_what_counts_has_even_ends_far_beyond(self):
        chance = random.Random(619)
        found = []
        for k in range(400):
            net = layered(chance, 4, 3)
            # An order that is right for one token on the first wire, two of them and three.
            order = sorted(range(4), key=lambda wire: [-ends_of(net, (n, 0, 0, 0))[net[2].index(wire)] for n in (1, 2, 3)])
            net = (4, net[1], tuple(order))
            if judged(net) == ("counts",):
                found.append(net)
            else:
                self.off(net)
        self.assertTrue(len(found) > 10, len(found))
        for net in found + [halves(1), halves(2), halves(4), CROSSED]:
            for high in (1, 5, 20, 1000, 10 ** 30):
                for k in range(20):
                    counts = tuple(chance.randrange(high + 1) for wire in range(net[0]))
                    self.assertTrue(stands_even(put_through(net, counts)), (net, counts))

    def test_what_counts_counts_behind_any_net(self):
        chance = random.Random(631)
        for k in range(40):
            net = behind(layered(chance, 2, chance.randrange(6)), halves(2))
            self.counts(net)

    def test_nothing_hangs_on_what_was_asked(self):
        nets = [halves(4), ODD_AND_EVEN, LATE, bare(1), bare(5), CROSSED]
        first = [judged(net) for net in nets]
        self.refused(TooGreat, judged, halves(8))
        last = [judged(net) for net in nets[::-1]]
        self.assertEqual([told[0] for told in first], [told[0] for told in last[::-1]])


def switched(net, bits):
    """What stands at the ends where each switch puts the greater of both on its first wire."""
    stands = dict(enumerate(bits))
    for a, b in net[1]:
        stands[a], stands[b] = max(stands[a], stands[b]), min(stands[a], stands[b])
    return [stands[wire] for wire in net[2]]


def bubbling(width):
    """Neighbours by turns, even places and odd ones, as often as there are wires."""
    switches = []
    for layer in range(width):
        switches += [(i, i + 1) for i in range(layer % 2, width - 1, 2)]
    return (width, tuple(switches), in_order(width))


class Sorts(Refusing):
    def sorting(self, net):
        self.assertEqual(kinds(sorts(net)), kinds(("sorts",)), net)

    def off(self, net):
        told = sorts(net)
        self.assertIs(type(told), tuple)
        self.assertEqual((len(told), told[0]), (2, "off"), net)
        bits = told[1]
        self.assertIs(type(bits), tuple)
        self.assertEqual([type(bit) for bit in bits], [int] * net[0])
        self.assertTrue(all(bit in (0, 1) for bit in bits), bits)
        ends = switched(net, bits)
        self.assertNotEqual(ends, sorted(ends, reverse=True), (net, bits))

    def test_halves_and_mirrors(self):
        for build in (halves, mirrors):
            for width in (1, 2, 4, 8):
                self.sorting(build(width))

    def test_a_few(self):
        self.sorting(BUBBLES)
        self.sorting(ODD_AND_EVEN)
        self.sorting(LATE)
        self.sorting((2, ((1, 0),), (1, 0)))
        self.off((2, ((1, 0),), (0, 1)))
        self.off((2, ((0, 1),), (1, 0)))
        self.off(cross(4))
        self.off(tree(4))
        self.off(joiner(8))

    def test_up_to_ten_wires(self):
        chance = random.Random(641)
        for width in range(1, 11):
            net = bubbling(width)
            self.sorting(net)
            self.sorting(renamed(net, shuffled(chance, width)))
            self.sorting(behind(layered(chance, width, 3), net))

    def test_a_switch_less(self):
        for width in (2, 3, 4, 5, 9, 10):
            net = bubbling(width)
            # Without one of the last two layers neighbours can be left unsorted.
            for place in range(len(net[1]) - (width - 1), len(net[1])):
                less = (width, net[1][:place] + net[1][place + 1:], net[2])
                told = sorts(less)
                bad = [bits for bits in all_counts(width, 1) if switched(less, bits) != sorted(bits, reverse=True)]
                self.assertEqual(told == ("sorts",), not bad)
                if bad:
                    self.off(less)

    def test_switched_ends(self):
        for width in (2, 3, 9, 10):
            net = bubbling(width)
            self.off((width, net[1], net[2][::-1]))
            for place in range(width - 1):
                order = list(net[2])
                order[place], order[place + 1] = order[place + 1], order[place]
                self.off((width, net[1], tuple(order)))

    def test_nets_without_switches(self):
        self.sorting(bare(1))
        for width in range(2, 11):
            self.off(bare(width))

    def test_just_one_tuple_shows_it(self):
        # Of nine wires sorted and one more behind them only a few tuples are left unsorted.
        nine = beside(bubbling(9), bare(1))
        self.off(nine)
        self.off(beside(bare(1), bubbling(9)))
        most = (10, bubbling(10)[1] + ((9, 0),), in_order(10))
        self.off(most)

    def test_by_all_tuples(self):
        chance = random.Random(643)
        found = {"sorts": 0, "off": 0}
        for k in range(300):
            width = chance.randrange(1, 6)
            net = layered(chance, width, chance.randrange(7))
            if chance.randrange(2):
                net = (width, tuple((min(pair), max(pair)) for pair in net[1]), in_order(width))
            told = sorts(net)
            every = all(switched(net, bits) == sorted(bits, reverse=True) for bits in all_counts(width, 1))
            self.assertEqual(told == ("sorts",), every, net)
            found[told[0]] += 1
            if not every:
                self.off(net)
        self.assertTrue(min(found.values()) > 30, found)

    def test_too_great(self):
        for width in range(11, 17):
            self.refused(TooGreat, sorts, bare(width))
            self.refused(TooGreat, sorts, bubbling(width))
        self.refused(TooGreat, sorts, halves(16))
        self.refused(TooGreat, sorts, mirrors(16))

    def test_somewhat_beyond_the_limits(self):
        self.refused(TooGreat, sorts, bare(17))
        self.off((10, ((0, 1),) * 161, in_order(10)))
        self.sorting((2, ((0, 1),) * 161, in_order(2)))

    def test_what_counts_sorts(self):
        chance = random.Random(647)
        counting = 0
        for k in range(300):
            width = chance.choice((1, 2, 4, 4))
            net = layered(chance, width, 3)
            if width == 4:
                switches = behind(cross(4), layered(chance, 4, 1))[1]
                net = (4, switches, shuffled(chance, 4))
            if judged(net) == ("counts",):
                counting += 1
                self.sorting(net)
        self.assertTrue(counting > 60, counting)
        for wires in itertools.permutations(range(4)):
            for net in (renamed(halves(4), wires), renamed(CROSSED, wires)):
                self.assertEqual((judged(net), sorts(net)), (("counts",), ("sorts",)))

    def test_what_sorts_need_not_count(self):
        for net in (BUBBLES, ODD_AND_EVEN, LATE):
            self.assertEqual((judged(net)[0], sorts(net)), ("off", ("sorts",)))


if __name__ == "__main__":
    unittest.main()
