import copy
import itertools
import random
import unittest

from samples import Refusing, bare, dealt, in_order, kinds, layered, shuffled, some_counts, some_net, stands_even
from turnfork.built import halves, joiner, mirrors, tree
from turnfork.counts import put_through
from turnfork.errors import TooGreat
from turnfork.judged import judged
from turnfork.nets import depth
from turnfork.papers import is_paper, joins, paper_of
from turnfork.together import renamed

SMALL = ("small",)
TWO = ("halves", 0, (0,), (1,), SMALL, SMALL)
FOUR = ("halves", 2, (0, 1), (2, 3), TWO, SMALL)
EIGHT = ("halves", 12, (0, 1, 3, 2), (4, 5, 7, 6), FOUR, FOUR)

# It puts two falling rows of 0 and 1 together, so sums of at most 4 on either row come out even.
ODD_AND_EVEN = (
    8,
    ((0, 4), (1, 5), (2, 6), (3, 7), (2, 4), (3, 5), (1, 2), (3, 4), (5, 6)),
    (0, 1, 2, 3, 4, 5, 6, 7),
)
# Rows (0, 1) and (2, 3): even up to sums of 3.
LATE_FOUR = (4, ((2, 1), (0, 2), (1, 3), (3, 0), (1, 2), (2, 0)), (3, 1, 2, 0))
# Rows (0, 1, 2) and (3, 4, 5): even up to sums of 4.
LATE_SIX = (
    6,
    ((4, 0), (2, 5), (3, 1), (0, 1), (4, 3), (5, 4), (0, 2), (3, 1), (0, 3), (2, 1), (4, 5)),
    (4, 0, 3, 2, 1, 5),
)


def rows_of(width):
    return in_order(width)[: width // 2], in_order(width)[width // 2:]


def on_wires(left, right, one, other):
    """Counts with so many tokens dealt to the one row and so many to the other."""
    half = len(left)
    at = dict(zip(left, dealt(half, one)))
    at.update(zip(right, dealt(half, other)))
    return tuple(at[wire] for wire in range(2 * half))


def joins_up_to(net, left, right, most):
    sums = itertools.product(range(most + 1), repeat=2)
    return all(stands_even(put_through(net, on_wires(left, right, one, other))) for one, other in sums)


def longer(net, times):
    """A net with switches of neighbouring ends behind it, by which even counts don't change."""
    order = net[2]
    return (net[0], net[1] + tuple(zip(order[0::2], order[1::2])) * times, order)


def last_two_exchanged(net):
    order = net[2]
    return (net[0], net[1], order[:-2] + (order[-1], order[-2]))


def found_joiners(seed, width, deep, many):
    """Nets that join the rows of a width, and nets that don't, as drawn."""
    chance = random.Random(seed)
    left, right = rows_of(width)
    for k in range(many):
        net = layered(chance, width, deep)
        ends = [put_through((width, net[1], in_order(width)), on_wires(left, right, n, 0)) for n in range(1, width)]
        order = tuple(sorted(range(width), key=lambda wire: [-counts[wire] for counts in ends]))
        yield (width, net[1], order)


class Joins(Refusing):
    def test_the_joiner_with_its_halves(self):
        for width in (2, 4, 8):
            left, right = rows_of(width)
            self.assertIs(joins(joiner(width), left, right), True)
            self.assertIs(joins(joiner(width), right, left), True)

    def test_ends_exchanged(self):
        for width in (2, 4, 8):
            left, right = rows_of(width)
            net = joiner(width)
            self.assertIs(joins(last_two_exchanged(net), left, right), False)
            self.assertIs(joins((width, net[1], net[2][::-1]), left, right), False)
            for place in range(width - 1):
                order = list(net[2])
                order[place], order[place + 1] = order[place + 1], order[place]
                self.assertIs(joins((width, net[1], tuple(order)), left, right), False)

    def test_a_switch_less_or_turned(self):
        for width in (2, 4, 8):
            left, right = rows_of(width)
            switches, order = joiner(width)[1:]
            for place, (a, b) in enumerate(switches):
                ahead, behind = switches[:place], switches[place + 1:]
                self.assertIs(joins((width, ahead + behind, order), left, right), False)
                turned = (width, ahead + ((b, a),) + behind, order)
                self.assertEqual(joins(turned, left, right), joins_up_to(turned, left, right, 3 * width))

    def test_wires_renamed(self):
        chance = random.Random(701)
        for width in (2, 4, 8):
            for k in range(6):
                wires = shuffled(chance, width)
                left, right = [tuple(wires[wire] for wire in row) for row in rows_of(width)]
                net = renamed(joiner(width), wires)
                self.assertIs(joins(net, left, right), True)
                self.assertIs(joins(net, right, left), True)

    def test_rows_in_other_orders(self):
        self.assertIs(joins(joiner(4), (1, 0), (2, 3)), False)
        self.assertIs(joins(joiner(4), (0, 1), (3, 2)), False)
        for wires in itertools.permutations(range(4)):
            left, right = wires[:2], wires[2:]
            self.assertEqual(joins(joiner(4), left, right), joins_up_to(joiner(4), left, right, 24), wires)
        found = [joins(joiner(4), wires[:2], wires[2:]) for wires in itertools.permutations(range(4))]
        self.assertEqual(sorted(set(found)), [False, True])
        chance = random.Random(709)
        for k in range(12):
            left, right = rows_of(8)
            left, right = tuple(chance.sample(left, 4)), tuple(chance.sample(right, 4))
            self.assertEqual(joins(joiner(8), left, right), joins_up_to(joiner(8), left, right, 16))

    def test_the_orders_of_nets_of_halves(self):
        net = (8, halves(8)[1][12:], halves(8)[2])
        self.assertIs(joins(net, (0, 1, 3, 2), (4, 5, 7, 6)), True)
        self.assertIs(joins(net, (0, 1, 2, 3), (4, 5, 6, 7)), False)
        self.assertIs(joins(net, (0, 1, 3, 2), (4, 5, 6, 7)), False)

    def test_only_great_sums_show_it(self):
        for net, most in ((ODD_AND_EVEN, 4), (LATE_FOUR, 3), (LATE_SIX, 4)):
            left, right = rows_of(net[0])
            self.assertTrue(joins_up_to(net, left, right, most))
            self.assertFalse(joins_up_to(net, left, right, most + 1))
            self.assertIs(joins(net, left, right), False)
            self.assertIs(joins(net, right, left), False)

    def test_only_sums_on_both_rows_show_it(self):
        net = (4, ((1, 3), (0, 2)), (0, 1, 2, 3))
        left, right = rows_of(4)
        for n in range(40):
            self.assertTrue(stands_even(put_through(net, on_wires(left, right, n, 0))))
            self.assertTrue(stands_even(put_through(net, on_wires(left, right, 0, n))))
        self.assertIs(joins(net, left, right), False)

    def test_rows_of_one_wire(self):
        self.assertIs(joins((2, ((0, 1),), (0, 1)), (0,), (1,)), True)
        self.assertIs(joins((2, ((0, 1),), (0, 1)), (1,), (0,)), True)
        self.assertIs(joins((2, ((1, 0),), (0, 1)), (0,), (1,)), False)
        self.assertIs(joins((2, ((1, 0),), (1, 0)), (0,), (1,)), True)
        self.assertIs(joins(bare(2), (0,), (1,)), False)
        self.assertIs(joins((2, ((1, 0), (0, 1)), (0, 1)), (0,), (1,)), True)

    def test_rows_of_three(self):
        left, right = rows_of(6)
        found = {True: 0, False: 0}
        for deep in (3, 4):
            for net in found_joiners(719, 6, deep, 700):
                if joins(net, left, right):
                    found[True] += 1
                    self.assertTrue(joins_up_to(net, left, right, 30))
                else:
                    found[False] += 1
        self.assertTrue(min(found.values()) > 0, found)

    def test_without_switches(self):
        for width in (2, 4, 6, 8):
            self.assertIs(joins(bare(width), *rows_of(width)), False)

    def test_by_all_sums(self):
        found = {True: 0, False: 0}
        for width, deep in ((2, 0), (2, 1), (2, 2), (4, 1), (4, 2), (4, 3)):
            left, right = rows_of(width)
            for net in found_joiners(727 + deep, width, deep, 60):
                told = joins(net, left, right)
                self.assertIs(told, joins_up_to(net, left, right, 2 * width * 2 ** depth(net) // 2))
                found[told] += 1
        self.assertTrue(min(found.values()) > 20, found)

    def test_what_joins_joins_great_sums(self):
        chance = random.Random(733)
        for width in (2, 4, 8):
            left, right = rows_of(width)
            for net in found_joiners(739, width, 4, 40):
                if not joins(net, left, right):
                    continue
                for k in range(20):
                    more, most = chance.randrange(10 ** 9), chance.randrange(10 ** 50)
                    counts = on_wires(left, right, chance.randrange(width), chance.randrange(width))
                    great = tuple(count + (more if wire in left else most) for wire, count in enumerate(counts))
                    self.assertTrue(stands_even(put_through(net, great)))

    def test_just_as_great_as_may_be(self):
        for width in (2, 4, 8):
            left, right = rows_of(width)
            net = longer(joiner(width), 4 - depth(joiner(width)))
            self.assertEqual(depth(net), 4)
            self.assertIs(joins(net, left, right), True)
            self.assertIs(joins(last_two_exchanged(net), left, right), False)

    def test_too_deep(self):
        for width in (2, 4, 8):
            left, right = rows_of(width)
            net = longer(joiner(width), 5 - depth(joiner(width)))
            self.assertEqual(depth(net), 5)
            self.refused(TooGreat, joins, net, left, right)
        self.refused(TooGreat, joins, halves(8), *rows_of(8))
        self.refused(TooGreat, joins, (2, ((0, 1),) * 160, (0, 1)), (0,), (1,))
        self.refused(TooGreat, joins, (6, ((0, 5),) * 5, in_order(6)), *rows_of(6))

    def test_too_wide(self):
        for width in (10, 12, 14, 16):
            self.refused(TooGreat, joins, bare(width), *rows_of(width))
        for width in (9, 11, 13, 15):
            self.refused(TooGreat, joins, bare(width), in_order(width)[: width // 2], in_order(width)[width // 2:])
        self.refused(TooGreat, joins, joiner(16), *rows_of(16))
        self.refused(TooGreat, joins, mirrors(16), *rows_of(16))
        self.refused(TooGreat, joins, bare(18), *rows_of(18))

    def test_nothing_hangs_on_what_was_asked(self):
        asked = [(joiner(width), *rows_of(width)) for width in (2, 4, 8)]
        asked += [(LATE_FOUR, *rows_of(4)), (bare(6), *rows_of(6)), (joiner(4), (1, 0), (2, 3))]
        first = [joins(*given) for given in asked]
        self.refused(TooGreat, joins, joiner(16), *rows_of(16))
        last = [joins(*given) for given in asked[::-1]]
        self.assertEqual(first, last[::-1])


def row_net(net, cut, row):
    """The net of a row, by the document's words."""
    rising = sorted(row)
    switches = [(a, b) for a, b in net[1][:cut] if a in row and b in row]
    named = tuple((rising.index(a), rising.index(b)) for a, b in switches)
    return (len(row), named, tuple(rising.index(wire) for wire in row))


def shown(net, thing):
    """Whether a thing is a paper for a net, condition by condition."""
    width, switches, order = net
    if kinds(thing) == kinds(SMALL):
        return width * depth(net) <= 12 and judged(net) == ("counts",)
    if type(thing) is not tuple or len(thing) != 6 or thing[0] != "halves":
        return False
    cut, left, right, one, other = thing[1:]
    if type(cut) is not int or cut not in range(len(switches) + 1):
        return False
    if type(left) is not tuple or type(right) is not tuple or len(left) != len(right):
        return False
    wires = left + right
    if any(type(wire) is not int for wire in wires) or sorted(wires) != list(range(width)):
        return False
    if any({a, b} & set(left) and {a, b} & set(right) for a, b in switches[:cut]):
        return False
    rest = (width, switches[cut:], order)
    if depth(rest) > 4:
        return False
    return (
        shown(row_net(net, cut, left), one)
        and shown(row_net(net, cut, right), other)
        and joins(rest, left, right)
    )


def paper_renamed(paper, wires):
    """What a paper for a net becomes where the net's wires are renamed."""
    if paper == SMALL:
        return SMALL
    word, cut, left, right, one, other = paper
    rows, papers = [], []
    for row, half in ((left, one), (right, other)):
        new = tuple(wires[wire] for wire in row)
        rising = sorted(new)
        rows.append(new)
        papers.append(paper_renamed(half, tuple(rising.index(wires[wire]) for wire in sorted(row))))
    return (word, cut, rows[0], rows[1], papers[0], papers[1])


def put_at(thing, place, new):
    """A tuple with another thing at a place."""
    return thing[:place] + (new,) + thing[place + 1:]


def nested(many, kind):
    thing = kind([0])
    for k in range(many - 1):
        thing = kind([thing])
    return thing


THINGS = [
    None, True, False, 0, 1, 2, 3, 12, -1, 10 ** 59, -(10 ** 59), 10 ** 60 - 1,
    "", "small", "halves", "Small", "small ", (), [], ("small",), ["small"], ("halves",), ("small", "small"), (("small",),),
    (0,), (1,), (0, 1), (2, 3), [0, 1], (0, 1, 2, 3), (0, 1, 3, 2), (4, 5, 7, 6), [0, 1, 3, 2], (True,), (False,), (None,),
    (0, True), (0, "1"), ("0",), ((0,),), "0132", nested(12, tuple), nested(12, list), TWO, FOUR, EIGHT, list(TWO), list(EIGHT),
]


class Papers(Refusing):
    def is_one(self, net, thing):
        before = copy.deepcopy(thing)
        self.assertIs(is_paper(net, thing), True, (net, thing))
        self.assertEqual(kinds(thing), kinds(before))

    def is_none(self, net, thing):
        before = copy.deepcopy(thing)
        self.assertIs(is_paper(net, thing), False, (net, thing))
        self.assertEqual(kinds(thing), kinds(before))

    def test_what_is_told_for_the_net_of_halves(self):
        for width in (1, 2, 4, 8):
            self.is_one(halves(width), paper_of(width))
            if width > 1:
                self.is_none(last_two_exchanged(halves(width)), paper_of(width))

    def test_told_for_other_widths(self):
        for width in (1, 2, 4, 8):
            for other in (1, 2, 4, 8):
                self.assertIs(is_paper(halves(width), paper_of(other)), shown(halves(width), paper_of(other)))
        self.is_none(halves(8), paper_of(4))
        self.is_none(halves(4), paper_of(8))

    def test_papers_within_papers(self):
        self.is_one(halves(2), TWO)
        self.is_one(halves(4), FOUR)
        self.is_one(halves(8), EIGHT)
        self.is_one(halves(8), ("halves", 12, (4, 5, 7, 6), (0, 1, 3, 2), FOUR, SMALL))
        for net, paper in ((halves(2), TWO), (halves(4), FOUR), (halves(8), EIGHT)):
            self.is_none(last_two_exchanged(net), paper)

    def test_wires_renamed(self):
        for wires in itertools.permutations(range(4)):
            self.is_one(renamed(halves(4), wires), paper_renamed(FOUR, wires))
        chance = random.Random(743)
        for k in range(8):
            wires = shuffled(chance, 8)
            net = renamed(halves(8), wires)
            paper = paper_renamed(EIGHT, wires)
            self.is_one(net, paper)
            self.is_none(last_two_exchanged(net), paper)
        # Rows of wires that do not lie side by side, with papers that name wires by their places.
        net = (4, ((3, 1), (0, 2), (3, 2), (1, 0), (3, 1), (2, 0)), (3, 1, 2, 0))
        self.assertEqual(net, renamed(halves(4), (3, 1, 0, 2)))
        inner = ("halves", 0, (1,), (0,), SMALL, SMALL)
        self.is_one(net, ("halves", 2, (3, 1), (0, 2), inner, TWO))
        self.is_one(net, ("halves", 2, (0, 2), (3, 1), TWO, inner))
        self.is_none(net, ("halves", 2, (1, 3), (0, 2), inner, TWO))

    def test_small(self):
        for width in (1, 2, 4):
            self.is_one(halves(width), SMALL)
        for wires in itertools.permutations(range(4)):
            self.is_one(renamed(halves(4), wires), SMALL)
        self.is_one((2, ((0, 1),) * 6, (0, 1)), SMALL)
        self.is_none((2, ((0, 1),) * 7, (0, 1)), SMALL)
        self.is_none(mirrors(4), SMALL)
        self.is_none(halves(8), SMALL)
        self.is_none(mirrors(8), SMALL)
        self.is_none(tree(4), SMALL)
        self.is_none(last_two_exchanged(halves(4)), SMALL)
        for width in range(2, 9):
            self.is_none(bare(width), SMALL)

    def test_the_cut(self):
        for cut in (-12, -1, 11, 13, 0, 24, 25, 36, 10 ** 59, -(10 ** 59), 12 - 48, None, "12", (12,), [12]):
            self.is_none(halves(8), put_at(EIGHT, 1, cut))
        self.is_none(halves(2), put_at(TWO, 1, False))
        for cut in (-1, 1, 2):
            self.is_none(halves(2), put_at(TWO, 1, cut))
        for cut in (-4, -1, True, 0, 1, 3, 4, 5, 6, 7):
            self.is_none(halves(4), put_at(FOUR, 1, cut))

    def test_the_rows(self):
        left, right = EIGHT[2], EIGHT[3]
        wrong = [
            left[:3], left + (4,), (0, 1, 3, 3), (0, 1, 3, 4), (0, 1, 3, 8), (0, 1, 3, -6), list(left), (0, True, 3, 2),
            (False, 1, 3, 2), (0, 1, 3, "2"), (0, 1, 3, None), (0, 1, 3, (2,)), (), None, 0, "0132", (0, 1, 2, 3), right,
            (2, 3, 1, 0),
        ]
        for row in wrong:
            self.is_none(halves(8), put_at(EIGHT, 2, row))
        for row in wrong[:17] + [(4, 5, 6, 7), left, list(right)]:
            self.is_none(halves(8), put_at(EIGHT, 3, row))
        self.is_none(halves(8), ("halves", 12, left[:3], right[:3], SMALL, SMALL))
        self.is_none(halves(8), ("halves", 12, left + right, (), EIGHT, SMALL))
        self.is_none(halves(8), ("halves", 12, left[:3], right + (2,), FOUR, FOUR))
        self.is_none(halves(1), ("halves", 0, (), (), SMALL, SMALL))
        self.is_none(halves(1), ("halves", 0, (0,), (), SMALL, SMALL))
        self.is_none(halves(1), ("halves", 0, (0,), (0,), SMALL, SMALL))
        self.is_none(halves(2), ("halves", 0, (0,), (0,), SMALL, SMALL))
        self.is_none(halves(2), ("halves", 0, (False,), (True,), SMALL, SMALL))
        self.is_one(halves(2), ("halves", 0, (1,), (0,), SMALL, SMALL))

    def test_odd_widths(self):
        for width in (1, 3, 5, 7):
            for cut in (0, 1):
                half = width // 2
                wires = in_order(width)
                self.is_none(bare(width), ("halves", cut, wires[:half], wires[half:], SMALL, SMALL))
                self.is_none(bare(width), ("halves", cut, wires[:half], wires[half:-1], SMALL, SMALL))

    def test_a_switch_from_one_row_to_the_other(self):
        # Behind the first switch of the joiner, the one ahead of the cut changes nothing but the rows.
        width, switches, order = halves(4)
        self.is_one((4, switches, order), FOUR)
        doubled = (4, switches[:2] + switches[2:4] + switches[2:], order)
        self.is_one(doubled, FOUR)
        for cut in (3, 4):
            self.is_none(doubled, put_at(FOUR, 1, cut))
        crossing = (4, ((0, 2),) + switches, order)
        self.assertTrue(stands_even(put_through(crossing, (3, 1, 4, 1))))
        self.is_none(crossing, put_at(FOUR, 1, 3))
        crossing = (8, halves(8)[1][:12] + ((0, 4),) + halves(8)[1][12:], halves(8)[2])
        self.is_none(crossing, put_at(EIGHT, 1, 13))

    def test_the_rest_too_deep(self):
        net = longer(halves(8), 1)
        self.is_one(net, EIGHT)
        self.is_none(longer(halves(8), 2), EIGHT)
        self.is_none(longer(halves(8), 9), EIGHT)
        self.is_one(longer(halves(2), 3), TWO)
        self.is_none(longer(halves(2), 4), TWO)
        self.is_one(longer(halves(4), 2), FOUR)
        self.is_none(longer(halves(4), 3), FOUR)

    def test_the_whole_net_may_be_deep(self):
        pairs = ((0, 1), (2, 3), (4, 5), (6, 7))
        net = (8, pairs * 5 + halves(8)[1], halves(8)[2])
        self.assertEqual(depth(net), 11)
        four = ("halves", 12, (0, 1), (2, 3), SMALL, SMALL)
        self.is_one(net, ("halves", 32, (0, 1, 3, 2), (4, 5, 7, 6), four, four))
        # Its half nets are not small, and two wires with seven switches are not, either.
        self.is_none(net, ("halves", 32, (0, 1, 3, 2), (4, 5, 7, 6), four, SMALL))
        net = (8, pairs * 6 + halves(8)[1], halves(8)[2])
        four = ("halves", 14, (0, 1), (2, 3), SMALL, SMALL)
        self.is_none(net, ("halves", 36, (0, 1, 3, 2), (4, 5, 7, 6), four, four))

    def test_the_rest_not_joining(self):
        width, switches, order = halves(8)
        for place in range(12, 24):
            self.is_none((8, switches[:place] + switches[place + 1:], order), EIGHT)
        self.is_none((8, switches[:12], order), EIGHT)
        self.is_none((8, switches[:12], (0, 1, 3, 2, 4, 5, 7, 6)), EIGHT)
        late = LATE_FOUR
        pairs = ((0, 1), (2, 3))
        self.is_none((4, pairs + late[1], late[2]), ("halves", 2, (0, 1), (2, 3), SMALL, SMALL))
        self.is_none((8, switches[:12] + ODD_AND_EVEN[1], ODD_AND_EVEN[2]), EIGHT)

    def test_a_half_that_is_not_shown(self):
        for place in (4, 5):
            for half in (None, (), "small", ["small"], ("small", "small"), TWO, EIGHT, ("counts",), True, put_at(FOUR, 1, 1)):
                self.is_none(halves(8), put_at(EIGHT, place, half))
            self.is_one(halves(8), put_at(EIGHT, place, SMALL))
            self.is_none(halves(8), put_at(EIGHT, place, put_at(FOUR, 4, TWO[1:])))
            self.is_none(halves(8), put_at(EIGHT, place, put_at(FOUR, 5, FOUR)))
        # The half nets must count by themselves.
        width, switches, order = halves(8)
        for place in range(12):
            less = (8, switches[:place] + switches[place + 1:], order)
            for half in (SMALL, FOUR):
                self.is_none(less, put_at(put_at(put_at(EIGHT, 1, 11), 4, half), 5, half))
        # A right half that does not count, and a left one.
        self.is_none((4, ((0, 1),) + switches[2:6], (0, 1, 3, 2)), ("halves", 1, (0, 1), (2, 3), SMALL, SMALL))
        self.is_none((4, ((2, 3),) + switches[2:6], (0, 1, 3, 2)), ("halves", 1, (0, 1), (2, 3), SMALL, SMALL))

    def test_more_or_fewer_parts(self):
        for paper, net in ((EIGHT, halves(8)), (FOUR, halves(4)), (TWO, halves(2))):
            self.is_one(net, paper)
            for thing in (paper[:5], paper[:1], paper + (SMALL,), paper + (None,), paper[1:], list(paper), (paper,), [paper]):
                self.is_none(net, thing)
            for place in range(6):
                self.is_none(net, paper[:place] + paper[place + 1:])
        for thing in (("small", None), ("small", "small"), (SMALL,), ["small"], "small", ("s",), ("small ",), ("SMALL",)):
            self.is_none(halves(2), thing)

    def test_another_word(self):
        for word in ("", "half", "Halves", "halves ", "small", "counts", None, True, 0, ("halves",), ["halves"]):
            self.is_none(halves(8), put_at(EIGHT, 0, word))
            self.is_none(halves(2), put_at(TWO, 0, word))
        for word in ("", "halves", "counts", None, True, 1):
            self.is_none(halves(2), (word,))

    def test_any_thing(self):
        for net in (halves(1), halves(2), halves(4), halves(8), mirrors(4), bare(3), bare(8), joiner(8)):
            for thing in THINGS:
                self.assertIs(is_paper(net, copy.deepcopy(thing)), shown(net, thing), (net, thing))

    def test_any_thing_at_each_place(self):
        for paper, net in ((EIGHT, halves(8)), (FOUR, halves(4)), (TWO, halves(2))):
            for place in range(6):
                for thing in THINGS:
                    changed = put_at(paper, place, copy.deepcopy(thing))
                    before = copy.deepcopy(changed)
                    self.assertIs(is_paper(net, changed), shown(net, before), changed)
                    self.assertEqual(kinds(changed), kinds(before))

    def test_things_drawn(self):
        chance = random.Random(751)

        def draw(thing):
            if type(thing) is not tuple or not thing or chance.randrange(3) == 0:
                return chance.choice([copy.deepcopy(chance.choice(THINGS)), [thing], (thing,), list(thing) if thing == SMALL else 5])
            place = chance.randrange(len(thing))
            return put_at(thing, place, draw(thing[place]))

        for k in range(400):
            paper, net = chance.choice(((EIGHT, halves(8)), (FOUR, halves(4)), (TWO, halves(2))))
            thing = draw(paper)
            before = copy.deepcopy(thing)
            self.assertIs(is_paper(net, thing), shown(net, before), thing)
            self.assertEqual(kinds(thing), kinds(before))

    def test_papers_for_nets_drawn(self):
        found = {True: 0, False: 0}
        pairs = ((0, 1), (2, 3))
        for net in found_joiners(757, 4, 2, 80):
            net = (4, pairs + net[1], net[2])
            told = is_paper(net, FOUR)
            self.assertIs(told, shown(net, FOUR))
            found[told] += 1
            if told:
                self.assertEqual(judged(net), ("counts",))
        self.assertTrue(min(found.values()) > 3, found)

    def test_what_a_paper_shows_counts(self):
        chance = random.Random(761)
        wires = shuffled(chance, 8)
        papers = [(longer(halves(8), 1), EIGHT), (renamed(halves(8), wires), paper_renamed(EIGHT, wires)), (halves(4), FOUR)]
        papers += [(halves(width), paper_of(width)) for width in (1, 2, 4, 8)]
        for net, paper in papers:
            self.is_one(net, paper)
            for high in (1, 4, 30, 10 ** 30):
                for k in range(40):
                    self.assertTrue(stands_even(put_through(net, some_counts(chance, net[0], 0, high))))

    def test_more_than_eight_wires(self):
        for width in range(9, 17):
            for thing in [SMALL, EIGHT, None, 0, (), [], "small", ("halves", 0, *rows_of(width), SMALL, SMALL)]:
                self.refused(TooGreat, is_paper, bare(width), thing)
        for thing in THINGS:
            self.refused(TooGreat, is_paper, halves(16), thing)
        self.refused(TooGreat, is_paper, bare(17), SMALL)
        self.refused(TooGreat, is_paper, some_net(random.Random(769), 9, 160), SMALL)

    def test_of_any_net_of_at_most_eight_wires(self):
        chance = random.Random(773)
        for width in range(1, 9):
            for many in (0, 1, 10, 160):
                net = some_net(chance, width, many)
                for thing in (SMALL, TWO, FOUR, EIGHT):
                    self.assertIs(is_paper(net, thing), shown(net, thing))

    def test_nothing_hangs_on_what_was_asked(self):
        asked = [(halves(8), EIGHT), (halves(4), FOUR), (halves(4), TWO), (mirrors(4), SMALL), (halves(8), paper_of(8))]
        first = [is_paper(net, thing) for net, thing in asked]
        self.refused(TooGreat, is_paper, halves(16), EIGHT)
        self.assertEqual(first, [is_paper(net, thing) for net, thing in asked[::-1]][::-1])


class PaperOf(Refusing):
    def test_tuples_for_the_net_of_halves(self):
        for width in (1, 2, 4, 8):
            told = paper_of(width)
            self.assertIs(type(told), tuple)
            self.assertTrue(shown(halves(width), told), told)
            self.assertEqual(kinds(told), kinds(paper_of(width)))

    def test_other_widths(self):
        widths = (0, 3, 5, 6, 7, 9, 10, 12, 15, 16, 17, 32, 64, -1, -2, -4, -8, 10 ** 59, -(10 ** 59), 10 ** 60 - 1)
        for width in widths:
            self.refused(TooGreat, paper_of, width)

    def test_a_truth_is_no_width(self):
        self.refused(TooGreat, paper_of, True)
        self.refused(TooGreat, paper_of, False)


if __name__ == "__main__":
    unittest.main()
