import copy
import itertools
import unittest

from samples import bare, in_order, kinds, pairs, some_nets
from turnfork.nets import depth, ends_from, is_full, is_net, layers

NET = (3, ((0, 1), (1, 2), (2, 0)), (1, 0, 2))

# Full, of two layers.
CROSSING = (4, ((0, 1), (2, 3), (0, 3), (1, 2)), (0, 1, 2, 3))


def nested(deep, make):
    thing = 1
    for k in range(deep):
        thing = make(thing, k)
    return thing


def odd_things():
    """Things that are no part of any net, wherever they stand."""
    deep = [nested(12, make) for make in (
        lambda thing, k: (thing,),
        lambda thing, k: [thing],
        lambda thing, k: (thing, thing) if k % 2 else [thing],
        lambda thing, k: (k, thing, (0, 1)),
    )]
    return deep + [
        None, True, False, "", "0", "01", "net", "\u00e9", -1, -16, 17, 160, 10 ** 59, 10 ** 60 - 1, -(10 ** 60 - 1),
        [], [0], [0, 1], [None], (None,), (True,), (False, True), ("0",), ("0", "1"), (0, None), (10 ** 59, 0),
        (-1, 0), ((),), [()], ([],), (0, 0), (0, 17), (17, 16), (1, 2, 1), ((0,), (1,)),
    ]


def places(thing, way=()):
    """The way to each thing that lies in a tuple, at any depth, and to the tuple itself."""
    yield way
    if isinstance(thing, tuple):
        for k, part in enumerate(thing):
            yield from places(part, way + (k,))


def at(thing, way):
    for k in way:
        thing = thing[k]
    return thing


def replaced(thing, way, by):
    if not way:
        return by
    parts = list(thing)
    parts[way[0]] = replaced(parts[way[0]], way[1:], by)
    return tuple(parts)


class IsNet(unittest.TestCase):
    def told(self, thing, expected):
        before = copy.deepcopy(thing)
        for time in range(2):
            self.assertIs(is_net(thing), expected, thing)
        self.assertEqual(kinds(thing), kinds(before))

    def test_widths(self):
        for width in range(1, 17):
            self.told(bare(width), True)
        for width in (0, 17, 18, -1, -2, 10 ** 59, -(10 ** 59)):
            self.told((width, (), in_order(min(width, 20))), False)
            self.told((width, (), ()), False)

    def test_width_beyond_what_its_order_tells(self):
        self.told((2, (), (0,)), False)
        self.told((1, (), (0, 1)), False)
        self.told((0, (), ()), False)

    def test_how_many_switches(self):
        for width in (2, 3, 16):
            for many in (0, 1, 2, 159, 160):
                self.told((width, pairs(width, many), in_order(width)), True)
            for many in (161, 162, 400):
                self.told((width, pairs(width, many), in_order(width)), False)

    def test_the_same_switch_again_and_turned_around(self):
        self.told((2, ((0, 1), (0, 1), (1, 0)), (1, 0)), True)

    def test_switches_that_are_none(self):
        for switch in ((0, 0), (3, 3), (0, 4), (4, 0), (-1, 0), (0, -1), (0,), (), (0, 1, 2), (0, 1, 0), (10 ** 59, 1)):
            for switches in ((switch,), ((0, 1), switch), (switch, (0, 1)), ((2, 3),) * 159 + (switch,)):
                self.told((4, switches, (0, 1, 2, 3)), False)

    def test_no_switch_on_one_wire(self):
        self.told((1, (), (0,)), True)
        for switch in ((0, 0), (0, 1), (1, 0)):
            self.told((1, (switch,), (0,)), False)

    def test_all_pairs_as_a_switch(self):
        for a, b in itertools.product(range(-2, 6), repeat=2):
            expected = 0 <= a < 4 and 0 <= b < 4 and a != b
            self.told((4, ((a, b),), (0, 1, 2, 3)), expected)

    def test_orders(self):
        for many in range(5):
            for order in itertools.product(range(-1, 4), repeat=many):
                self.told((3, (), order), sorted(order) == [0, 1, 2])

    def test_orders_of_sixteen(self):
        order = tuple(reversed(range(16)))
        self.told((16, (), order), True)
        self.told((16, (), order[1:]), False)
        self.told((16, (), order[:-1]), False)
        self.told((16, (), order + (0,)), False)
        self.told((16, (), (16,) + order[1:]), False)
        self.told((16, (), order[:-1] + (1,)), False)

    def test_how_many_parts(self):
        for thing in ((), (3,), NET[:2], NET[1:], NET + ((),), NET + NET, (NET,)):
            self.told(thing, False)

    def test_list_in_the_place_of_a_tuple(self):
        for way in places(NET):
            if isinstance(at(NET, way), tuple):
                self.told(replaced(NET, way, list(at(NET, way))), False)
        self.told((1, [], (0,)), False)
        self.told([1, [], [0]], False)
        self.told((2, ([0, 1],), (0, 1)), False)

    def test_tuple_in_the_place_of_a_number(self):
        for way in places(NET):
            if isinstance(at(NET, way), int):
                self.told(replaced(NET, way, (at(NET, way),)), False)
                self.told(replaced(NET, way, [at(NET, way)]), False)

    def test_truth_in_the_place_of_a_number(self):
        for net in (NET, (1, (), (0,)), (2, ((0, 1), (1, 0)), (1, 0))):
            self.told(net, True)
            for way in places(net):
                if isinstance(at(net, way), int) and at(net, way) in (0, 1):
                    self.told(replaced(net, way, bool(at(net, way))), False)

    def test_odd_things_at_each_place(self):
        for way in places(NET):
            for thing in odd_things():
                self.told(replaced(NET, way, thing), False)

    def test_odd_things_put_behind_each_tuple(self):
        for way in places(NET):
            if isinstance(at(NET, way), tuple):
                for thing in odd_things():
                    self.told(replaced(NET, way, at(NET, way) + (thing,)), False)

    def test_a_net_within_other_things(self):
        for thing in ((NET,), [NET], (NET, NET, NET), [NET, None], (3, NET, (0, 1, 2)), (3, (), NET)):
            self.told(thing, False)

    def test_all_sample_nets(self):
        for net in some_nets():
            self.told(net, True)


def layer_by_words(net):
    """For each switch its layer, straight from the words of the document."""
    told = []
    for k, switch in enumerate(net[1]):
        ahead = [told[j] for j in range(k) if set(net[1][j]) & set(switch)]
        told.append(min(layer for layer in range(k + 1) if all(layer > other for other in ahead)))
    return told


class Layers(unittest.TestCase):
    def test_no_switch(self):
        for width in range(1, 17):
            self.assertEqual(layers(bare(width)), [])
            self.assertEqual(depth(bare(width)), 0)

    def test_the_same_switch_again(self):
        net = (2, ((0, 1), (0, 1), (1, 0)), (0, 1))
        self.assertEqual(layers(net), [[0], [1], [2]])
        self.assertEqual(depth(net), 3)

    def test_switches_that_share_no_wire(self):
        net = (6, ((0, 1), (2, 3), (5, 4)), (0, 1, 2, 3, 4, 5))
        self.assertEqual(layers(net), [[0, 1, 2]])
        self.assertEqual(depth(net), 1)

    def test_a_later_switch_in_an_earlier_layer(self):
        net = (5, ((0, 1), (1, 2), (3, 4), (4, 2), (0, 3)), (4, 3, 2, 1, 0))
        self.assertEqual(layers(net), [[0, 2], [1, 4], [3]])
        self.assertEqual(depth(net), 3)

    def test_most_switches(self):
        net = (2, ((0, 1),) * 160, (0, 1))
        self.assertEqual(layers(net), [[k] for k in range(160)])
        self.assertEqual(depth(net), 160)

    def test_by_the_words_of_the_document(self):
        for net in some_nets(seed=11):
            lying = layer_by_words(net)
            told = layers(net)
            expected = [[k for k in range(len(lying)) if lying[k] == layer] for layer in range(max(lying, default=-1) + 1)]
            self.assertEqual(told, expected)
            self.assertEqual(depth(net), len(expected))

    def test_kinds(self):
        told = layers(CROSSING)
        self.assertEqual(kinds(told), kinds([[0, 1], [2, 3]]))
        self.assertIs(type(depth(CROSSING)), int)

    def test_lists_are_the_askers_own(self):
        told = layers(CROSSING)
        told[0].append(9)
        told.append([7])
        again = layers(CROSSING)
        self.assertEqual(again, [[0, 1], [2, 3]])
        self.assertEqual(depth(CROSSING), 2)
        self.assertIs(is_full(CROSSING), True)
        self.assertEqual(len({id(one) for one in (told, *told, again, *again)}), 7)
        empty = layers(bare(2))
        empty.append([1])
        self.assertEqual(layers(bare(2)), [])


class IsFull(unittest.TestCase):
    def test_without_layers(self):
        for width in range(1, 17):
            self.assertIs(is_full(bare(width)), True)

    def test_full_nets(self):
        for net in (
            (2, ((0, 1),), (0, 1)),
            (2, ((1, 0), (0, 1)), (1, 0)),
            CROSSING,
            (4, ((3, 1), (0, 2)), (3, 1, 0, 2)),
            (16, tuple((a, 15 - a) for a in range(8)), in_order(16)),
        ):
            self.assertIs(is_full(net), True, net)

    def test_a_switch_out(self):
        for k in range(4):
            switches = CROSSING[1][:k] + CROSSING[1][k + 1:]
            self.assertIs(is_full((4, switches, CROSSING[2])), False)

    def test_one_wire_more(self):
        self.assertIs(is_full((5, CROSSING[1], (0, 1, 2, 3, 4))), False)
        self.assertIs(is_full((3, ((0, 1),), (0, 1, 2))), False)

    def test_one_switch_more(self):
        for switch in itertools.permutations(range(4), 2):
            self.assertIs(is_full((4, CROSSING[1] + (switch,), CROSSING[2])), False)
            self.assertIs(is_full((4, (switch,) + CROSSING[1], CROSSING[2])), False)

    def test_enough_switches_in_the_wrong_layers(self):
        self.assertIs(is_full((4, ((0, 1), (0, 1), (0, 1), (2, 3)), (0, 1, 2, 3))), False)

    def test_by_the_words_of_the_document(self):
        for width, many in ((2, 3), (3, 3), (4, 4)):
            every = list(itertools.combinations(range(width), 2))
            for switches in itertools.product(every, repeat=many):
                net = (width, switches, in_order(width))
                lying = layer_by_words(net)
                touched = {(lying[k], wire) for k in range(many) for wire in switches[k]}
                expected = len(touched) == width * (max(lying) + 1)
                self.assertIs(is_full(net), expected, net)


def wires_from(switches, wire):
    """The wires to which a wire leads, by each way on its own."""
    for k, switch in enumerate(switches):
        if wire in switch:
            rest = switches[k + 1:]
            return wires_from(rest, switch[0]) | wires_from(rest, switch[1])
    return {wire}


class EndsFrom(unittest.TestCase):
    def test_no_switch(self):
        for width in range(1, 17):
            for wire in range(width):
                self.assertEqual(ends_from(bare(width), wire), [wire])

    def test_by_an_order_that_is_not_that_of_the_wires(self):
        net = (4, ((0, 1),), (3, 1, 2, 0))
        self.assertEqual(ends_from(net, 0), [1, 3])
        self.assertEqual(ends_from(net, 1), [1, 3])
        self.assertEqual(ends_from(net, 2), [2])
        self.assertEqual(ends_from(net, 3), [0])

    def test_switches_ahead_lead_nowhere_back(self):
        net = (3, ((0, 1), (1, 2)), (0, 1, 2))
        self.assertEqual(ends_from(net, 0), [0, 1, 2])
        self.assertEqual(ends_from(net, 1), [0, 1, 2])
        self.assertEqual(ends_from(net, 2), [1, 2])

    def test_the_same_switch_again(self):
        net = (3, ((0, 2), (0, 2)), (2, 1, 0))
        self.assertEqual([ends_from(net, wire) for wire in range(3)], [[0, 2], [1], [0, 2]])

    def test_by_each_way_on_its_own(self):
        for net in some_nets(seed=23):
            if len(net[1]) < 40:
                for wire in range(net[0]):
                    reached = wires_from(net[1], wire)
                    expected = [end for end in range(net[0]) if net[2][end] in reached]
                    self.assertEqual(ends_from(net, wire), expected)

    def test_most_switches(self):
        net = (16, pairs(16, 160), tuple(reversed(range(16))))
        self.assertEqual(ends_from(net, 0), list(range(16)))

    def test_kinds_and_new_lists(self):
        told = ends_from(CROSSING, 1)
        self.assertEqual(kinds(told), kinds([0, 1, 2, 3]))
        told.clear()
        self.assertEqual(ends_from(CROSSING, 1), [0, 1, 2, 3])
        self.assertIsNot(ends_from(CROSSING, 1), ends_from(CROSSING, 1))


class SomewhatBeyond(unittest.TestCase):
    def test_wide_nets_and_many_switches(self):
        net = (18, ((0, 17), (17, 16)) * 100, in_order(18))
        self.assertEqual(depth(net), 200)
        self.assertIs(is_full(net), False)
        self.assertEqual(ends_from(net, 0), [0, 16, 17])
        self.assertEqual(ends_from(net, 5), [5])

    def test_no_such_wire(self):
        for wire in (4, -1):
            self.assertEqual(ends_from(CROSSING, wire), [])


class NothingHangsOnWhatWasAsked(unittest.TestCase):
    def test_asked_in_another_order(self):
        def tell(net):
            return layers(net), depth(net), is_full(net), [ends_from(net, wire) for wire in range(net[0])]

        nets = [net for net in some_nets(seed=31)]
        there = [tell(net) for net in nets]
        back = [tell(net) for net in reversed(nets)]
        self.assertEqual(there, back[::-1])

    def test_no_net_is_changed(self):
        for net in some_nets(seed=37):
            before = copy.deepcopy(net)
            layers(net), depth(net), is_full(net), ends_from(net, 0)
            self.assertEqual(kinds(net), kinds(before))


if __name__ == "__main__":
    unittest.main()
