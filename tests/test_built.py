import random
import unittest

from samples import Refusing, dealt, halvings, in_order, kinds, shuffled, some_counts, some_turns, stands_even
from turnfork.built import cross, halves, joiner, mirrors, tree
from turnfork.counts import put_from, put_through, spread
from turnfork.errors import TooGreat
from turnfork.nets import depth, is_full, is_net

WIDTHS = (1, 2, 4, 8, 16)
JOINER_WIDTHS = (2, 4, 8, 16)
OTHER_WIDTHS = (0, 3, 5, 6, 7, 9, 10, 12, 15, 17, 18, 31, 32, 64, 128, 256, -1, -2, -4, -16)
SIXTY_FIGURES = (10 ** 59, 10 ** 60 - 1, -(10 ** 59), 1 - 10 ** 60, 2 ** 199)

JOINERS = {
    2: (2, ((0, 1),), (0, 1)),
    4: (4, ((0, 3), (1, 2), (0, 1), (3, 2)), (0, 1, 3, 2)),
    8: (
        8,
        (
            (0, 7), (2, 5), (0, 2), (7, 5),
            (1, 6), (3, 4), (1, 3), (6, 4),
            (0, 1), (2, 3), (7, 6), (5, 4),
        ),
        (0, 1, 2, 3, 7, 6, 5, 4),
    ),
}

HALVES = {
    1: (1, (), (0,)),
    2: (2, ((0, 1),), (0, 1)),
    4: (4, ((0, 1), (2, 3), (0, 3), (1, 2), (0, 1), (3, 2)), (0, 1, 3, 2)),
    8: (
        8,
        (
            (0, 1), (2, 3), (0, 3), (1, 2), (0, 1), (3, 2),
            (4, 5), (6, 7), (4, 7), (5, 6), (4, 5), (7, 6),
            # The rows 0 1 3 2 and 4 5 7 6 are joined: 0 and 3 with 5 and 6, then 1 and 2 with 4 and 7.
            (0, 6), (3, 5), (0, 3), (6, 5),
            (1, 7), (2, 4), (1, 2), (7, 4),
            (0, 1), (3, 2), (6, 7), (5, 4),
        ),
        (0, 1, 3, 2, 6, 7, 5, 4),
    ),
}

MIRROR_BLOCK = (
    (0, 7), (1, 6), (2, 5), (3, 4),
    (0, 3), (1, 2), (4, 7), (5, 6),
    (0, 1), (2, 3), (4, 5), (6, 7),
)

MIRRORS = {
    1: (1, (), (0,)),
    2: (2, ((0, 1),), (0, 1)),
    4: (4, ((0, 3), (1, 2), (0, 1), (2, 3), (0, 3), (1, 2), (0, 1), (2, 3)), (0, 1, 2, 3)),
    8: (8, MIRROR_BLOCK + MIRROR_BLOCK + MIRROR_BLOCK, (0, 1, 2, 3, 4, 5, 6, 7)),
}

CROSSES = {
    1: (1, (), (0,)),
    2: (2, ((0, 1),), (0, 1)),
    4: (4, ((0, 1), (2, 3), (0, 2), (1, 3)), (0, 1, 2, 3)),
    8: (
        8,
        (
            (0, 1), (2, 3), (0, 2), (1, 3),
            (4, 5), (6, 7), (4, 6), (5, 7),
            (0, 4), (1, 5), (2, 6), (3, 7),
        ),
        (0, 1, 2, 3, 4, 5, 6, 7),
    ),
}

TREES = {
    1: (1, (), (0,)),
    2: (2, ((0, 1),), (0, 1)),
    4: (4, ((0, 2), (0, 1), (2, 3)), (0, 2, 1, 3)),
    8: (8, ((0, 4), (0, 2), (0, 1), (2, 3), (4, 6), (4, 5), (6, 7)), (0, 4, 2, 6, 1, 5, 3, 7)),
}


def join(first, second, switches):
    """Joins two rows as the document says, the switches put behind those that there are."""
    if len(first) == 1:
        switches.append((first[0], second[0]))
        return [first[0], second[0]]
    even_first, odd_first = [], []
    even_second, odd_second = [], []
    for place in range(len(first)):
        (odd_first if place % 2 else even_first).append(first[place])
        (odd_second if place % 2 else even_second).append(second[place])
    c = join(even_first, odd_second, switches)
    d = join(odd_first, even_second, switches)
    row = []
    for one, other in zip(c, d):
        switches.append((one, other))
        row += [one, other]
    return row


def halve(wires, switches):
    if len(wires) == 1:
        return wires
    half = len(wires) // 2
    first = halve(wires[:half], switches)
    second = halve(wires[half:], switches)
    return join(first, second, switches)


def told_joiner(width):
    switches = []
    row = join(list(range(width // 2)), list(range(width // 2, width)), switches)
    return (width, tuple(switches), tuple(row))


def told_halves(width):
    switches = []
    row = halve(list(range(width)), switches)
    return (width, tuple(switches), tuple(row))


def told_mirrors(width):
    switches = []
    for block in range(halvings(width)):
        for groups in range(halvings(width)):
            size = width // 2 ** groups
            for first in range(0, width, size):
                group = list(range(first, first + size))
                switches += list(zip(group, group[::-1]))[: size // 2]
    return (width, tuple(switches), in_order(width))


def told_cross(width):
    if width == 1:
        return (1, (), (0,))
    half = width // 2
    once = told_cross(half)[1]
    again = tuple((a + half, b + half) for a, b in once)
    return (width, once + again + tuple((i, i + half) for i in range(half)), in_order(width))


def told_tree(width):
    if width == 1:
        return (1, (), (0,))
    half = width // 2
    once = told_tree(half)[1]
    again = tuple((a + half, b + half) for a, b in once)
    # The ends of both halves by turns, halving on and on: an end's number with its bits from behind.
    order = tuple(int(format(end, f"0{halvings(width)}b")[::-1], 2) for end in range(width))
    return (width, ((0, half),) + once + again, order)


BUILT = {
    joiner: (JOINERS, told_joiner),
    halves: (HALVES, told_halves),
    mirrors: (MIRRORS, told_mirrors),
    cross: (CROSSES, told_cross),
    tree: (TREES, told_tree),
}


def widths_of(build):
    return JOINER_WIDTHS if build == joiner else WIDTHS


class Built(Refusing):
    def test_by_hand(self):
        for build, (by_hand, telling) in BUILT.items():
            self.assertEqual(sorted(by_hand), list(widths_of(build))[:-1])
            for width, net in by_hand.items():
                self.assertEqual(kinds(build(width)), kinds(net), (build, width))
                self.assertEqual(telling(width), net)

    def test_each_width_by_the_document(self):
        for build, (by_hand, telling) in BUILT.items():
            for width in widths_of(build):
                self.assertEqual(kinds(build(width)), kinds(telling(width)), (build, width))

    def test_they_are_nets(self):
        for build in BUILT:
            for width in widths_of(build):
                net = build(width)
                self.assertIs(is_net(net), True)
                self.assertEqual(net[0], width)

    def test_sixteen_wires(self):
        self.assertEqual([len(build(16)[1]) for build in (joiner, halves, mirrors, cross, tree)], [32, 80, 128, 32, 15])
        self.assertEqual(joiner(16)[2], (0, 1, 2, 3, 4, 5, 6, 7, 15, 14, 13, 12, 11, 10, 9, 8))
        self.assertEqual(joiner(16)[1][:4], ((0, 15), (4, 11), (0, 4), (15, 11)))
        self.assertEqual(joiner(16)[1][-8:], ((0, 1), (2, 3), (4, 5), (6, 7), (15, 14), (13, 12), (11, 10), (9, 8)))
        self.assertEqual(halves(16)[1][:24], halves(8)[1])
        self.assertEqual(mirrors(16)[1][:8], tuple((i, 15 - i) for i in range(8)))
        self.assertEqual(cross(16)[1][-8:], tuple((i, i + 8) for i in range(8)))
        self.assertEqual(tree(16)[2], (0, 8, 4, 12, 2, 10, 6, 14, 1, 9, 5, 13, 3, 11, 7, 15))

    def test_depths(self):
        for width in WIDTHS:
            halved = halvings(width)
            self.assertEqual(depth(halves(width)), halved * (halved + 1) // 2)
            self.assertEqual(depth(mirrors(width)), halved * halved)
            self.assertEqual(depth(cross(width)), halved)
            self.assertEqual(depth(tree(width)), halved)
        for width in JOINER_WIDTHS:
            self.assertEqual(depth(joiner(width)), halvings(width))

    def test_full(self):
        for build in (joiner, halves, mirrors, cross):
            for width in widths_of(build):
                self.assertIs(is_full(build(width)), True)
        self.assertEqual([is_full(tree(width)) for width in WIDTHS], [True, True, False, False, False])

    def test_other_widths(self):
        for build in BUILT:
            for width in OTHER_WIDTHS + SIXTY_FIGURES + ((1,) if build == joiner else ()):
                self.refused(TooGreat, build, width)

    def test_a_truth_is_no_width(self):
        for build in BUILT:
            for width in (True, False):
                self.assertRaises(TooGreat, build, width)

    def test_nothing_hangs_on_what_was_asked(self):
        asked = [(build, width) for build in BUILT for width in widths_of(build)]
        first = [build(width) for build, width in asked]
        self.assertRaises(TooGreat, halves, 3)
        last = [build(width) for build, width in asked[::-1]]
        self.assertEqual(first, last[::-1])


class Counting(unittest.TestCase):
    def test_halves_and_mirrors_count(self):
        chance = random.Random(503)
        for build in (halves, mirrors):
            for width in WIDTHS:
                net = build(width)
                for high in (1, 2, 3, 9, 40, 1000, 10 ** 12, 10 ** 59):
                    for k in range(25):
                        counts = some_counts(chance, width, 0, high)
                        self.assertTrue(stands_even(put_through(net, counts)), (build, counts))

    def test_few_wires_with_tokens(self):
        chance = random.Random(509)
        for build in (halves, mirrors):
            for width in WIDTHS:
                net = build(width)
                for wire in range(width):
                    for count in list(range(40)) + [10 ** 9 + 7, 10 ** 59 + 1]:
                        counts = tuple(count if at == wire else 0 for at in range(width))
                        self.assertTrue(stands_even(put_through(net, counts)), (build, counts))
                for k in range(60):
                    some = shuffled(chance, width)[:2]
                    counts = tuple(chance.randrange(30) if at in some else 0 for at in range(width))
                    self.assertTrue(stands_even(put_through(net, counts)), (build, counts))

    def test_each_sum_is_dealt_in_turn(self):
        chance = random.Random(521)
        for build in (halves, mirrors):
            for width in WIDTHS:
                for total in range(50):
                    counts = [0] * width
                    for token in range(total):
                        counts[chance.randrange(width)] += 1
                    self.assertEqual(put_through(build(width), tuple(counts)), dealt(width, total))

    def test_the_tree_counts_on_its_first_wire(self):
        for width in WIDTHS:
            for count in range(100):
                counts = (count,) + (0,) * (width - 1)
                self.assertEqual(put_through(tree(width), counts), dealt(width, count))
            for count in (10 ** 9 + 7, 10 ** 59 + 3, 2 ** 190):
                counts = (count,) + (0,) * (width - 1)
                self.assertTrue(stands_even(put_through(tree(width), counts)))

    def test_the_joiner_joins(self):
        for width in JOINER_WIDTHS:
            net = joiner(width)
            half = width // 2
            for one in range(3 * width):
                for other in range(3 * width):
                    counts = dealt(half, one) + dealt(half, other)
                    self.assertEqual(put_through(net, counts), dealt(width, one + other))

    def test_the_joiner_joins_great_counts(self):
        chance = random.Random(523)
        for width in JOINER_WIDTHS:
            half = width // 2
            for k in range(100):
                great, greater = chance.randrange(10 ** 50), chance.randrange(10 ** 59)
                left = tuple(great + count for count in dealt(half, chance.randrange(half)))
                right = tuple(greater + count for count in dealt(half, chance.randrange(half)))
                self.assertTrue(stands_even(put_through(joiner(width), left + right)))

    def test_the_spread_behind_the_cross(self):
        chance = random.Random(541)
        for width in WIDTHS:
            net = cross(width)
            for high in (1, 3, 20, 1000, 10 ** 30):
                for k in range(150):
                    counts = some_counts(chance, width, 0, high)
                    ends = put_from(net, some_turns(chance, net), counts)[0]
                    self.assertLessEqual(spread(ends), halvings(width))
                    self.assertEqual(sum(ends), sum(counts))

    def test_halves_and_mirrors_from_any_turns(self):
        # What goes through them may come to a spread, but to none that is greater than the cross's.
        chance = random.Random(547)
        for build in (halves, mirrors):
            for width in WIDTHS:
                net = build(width)
                for k in range(150):
                    ends = put_from(net, some_turns(chance, net), some_counts(chance, width, 0, 99))[0]
                    self.assertLessEqual(spread(ends), halvings(width))


if __name__ == "__main__":
    unittest.main()
