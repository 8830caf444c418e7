import random
import unittest

from samples import Refusing, kinds
from turnfork.errors import NoFork, NoLeaf, NoToken
from turnfork.widening import Tree

FAR = 4096


class Bush:
    """A tree whose leaves hold the very numbers that they will give, as far as anyone asks.

    What is refused raises LookupError.
    """

    def __init__(self):
        self.forks = {}
        self.heaps = {"": list(range(FAR))}
        self.at = []

    def come(self):
        self.at.append("")
        return len(self.at) - 1

    def go(self, token):
        if token not in range(len(self.at)) or self.at[token] is None:
            raise LookupError
        name = self.at[token]
        if name in self.heaps:
            self.at[token] = None
            return ("leaf", name, self.heaps[name].pop(0))
        below = name + "01"[self.forks[name] % 2]
        self.forks[name] += 1
        self.at[token] = below
        return ("fork", below)

    def widen(self, name):
        if name not in self.heaps or len(name) >= 10:
            raise LookupError
        heap = self.heaps.pop(name)
        self.forks[name] = 0
        self.heaps[name + "0"] = heap[0::2]
        self.heaps[name + "1"] = heap[1::2]

    def narrow(self, name):
        below = [name + "0", name + "1"]
        if name not in self.forks or any(leaf not in self.heaps or leaf in self.at for leaf in below):
            raise LookupError
        del self.forks[name]
        self.heaps[name] = sorted(self.heaps.pop(below[0]) + self.heaps.pop(below[1]))

    def leaves(self):
        return sorted((name, heap[0], heap[1] - heap[0]) for name, heap in self.heaps.items())

    def within(self):
        return [(token, name) for token, name in enumerate(self.at) if name is not None]


def names_around(bush):
    """Names of knots, of what lies below them, and of what there isn't."""
    names = list(bush.forks) + list(bush.heaps)
    return names + [name + sign for name in names for sign in "01"] + ["0" * 11, "1" * 30, "0101010101"]


def widened(*names):
    tree = Tree()
    for name in names:
        tree.widen(name)
    return tree


def stand_of(tree):
    return kinds((tree.leaves(), tree.within()))


class Trees(Refusing):
    def changes_nothing(self, tree, error, ask, *given):
        before = stand_of(tree)
        self.refused(error, ask, *given)
        self.assertEqual(stand_of(tree), before)


class Tokens(Trees):
    def test_at_first(self):
        tree = Tree()
        self.assertEqual(kinds(tree.leaves()), kinds([("", 0, 1)]))
        self.assertEqual(kinds(tree.within()), kinds([]))

    def test_a_leaf_gives_numbers(self):
        tree = Tree()
        for token in range(5):
            self.assertEqual(kinds(tree.come()), kinds(token))
            self.assertEqual(kinds(tree.within()), kinds([(token, "")]))
            self.assertEqual(kinds(tree.go(token)), kinds(("leaf", "", token)))
            self.assertEqual(kinds(tree.within()), kinds([]))
            self.assertEqual(kinds(tree.leaves()), kinds([("", token + 1, 1)]))

    def test_numbers_as_tokens_go_not_as_they_come(self):
        tree = Tree()
        self.assertEqual([tree.come() for k in range(3)], [0, 1, 2])
        self.assertEqual(tree.within(), [(0, ""), (1, ""), (2, "")])
        self.assertEqual([tree.go(token) for token in (2, 0, 1)], [("leaf", "", number) for number in range(3)])

    def test_a_fork_takes_turns(self):
        tree = widened("")
        for token in range(5):
            tree.come()
        told = [tree.go(token) for token in (0, 1, 2, 3, 4)]
        self.assertEqual(kinds(told), kinds([("fork", "0"), ("fork", "1"), ("fork", "0"), ("fork", "1"), ("fork", "0")]))
        self.assertEqual(kinds(tree.within()), kinds([(0, "0"), (1, "1"), (2, "0"), (3, "1"), (4, "0")]))
        told = [tree.go(token) for token in (4, 3, 2, 1, 0)]
        expected = [("leaf", "0", 0), ("leaf", "1", 1), ("leaf", "0", 2), ("leaf", "1", 3), ("leaf", "0", 4)]
        self.assertEqual(kinds(told), kinds(expected))
        self.assertEqual(kinds(tree.leaves()), kinds([("0", 6, 2), ("1", 5, 2)]))

    def test_forks_below_forks(self):
        tree = widened("", "1", "10")
        self.assertEqual(tree.leaves(), [("0", 0, 2), ("100", 1, 8), ("101", 5, 8), ("11", 3, 4)])
        for token in range(8):
            tree.come()
        self.assertEqual([tree.go(token)[1] for token in range(8)], ["0", "1"] * 4)
        self.assertEqual([tree.go(token)[1] for token in (1, 3, 5, 7)], ["10", "11", "10", "11"])
        self.assertEqual([tree.go(token)[1] for token in (1, 5)], ["100", "101"])
        told = [tree.go(token) for token in range(8)]
        self.assertEqual([row[0] for row in told], ["leaf"] * 8)
        self.assertEqual([row[2] for row in told], [0, 1, 2, 3, 4, 5, 6, 7])
        self.assertEqual(tree.leaves(), [("0", 8, 2), ("100", 9, 8), ("101", 13, 8), ("11", 11, 4)])

    def test_no_token(self):
        tree = Tree()
        for token in (0, 1, -1, 10 ** 59, -(10 ** 59)):
            self.changes_nothing(tree, NoToken, tree.go, token)
        tree.come()
        tree.widen("")
        tree.come()
        for token in (2, 3, -1, -2, 10 ** 60 - 1):
            self.changes_nothing(tree, NoToken, tree.go, token)
        tree.go(0)
        tree.go(0)
        self.changes_nothing(tree, NoToken, tree.go, 0)
        self.assertEqual(tree.come(), 2)
        self.assertEqual(tree.within(), [(1, ""), (2, "")])
        # Refused goings took no turn and no number.
        self.assertEqual([tree.go(token) for token in (1, 1, 2, 2)],
                         [("fork", "1"), ("leaf", "1", 1), ("fork", "0"), ("leaf", "0", 2)])

    def test_a_truth_is_no_token(self):
        tree = Tree()
        tree.come()
        tree.come()
        for token in (True, False):
            self.changes_nothing(tree, NoToken, tree.go, token)


class Widening(Trees):
    def test_it_tells_none(self):
        tree = Tree()
        self.assertIsNone(tree.widen(""))
        self.assertIsNone(tree.narrow(""))

    def test_next_and_step_are_shared(self):
        tree = Tree()
        for token in range(3):
            tree.come()
            tree.go(token)
        tree.widen("")
        self.assertEqual(kinds(tree.leaves()), kinds([("0", 3, 2), ("1", 4, 2)]))
        tree.widen("1")
        self.assertEqual(kinds(tree.leaves()), kinds([("0", 3, 2), ("10", 4, 4), ("11", 6, 4)]))
        tree.widen("0")
        self.assertEqual(kinds(tree.leaves()), kinds([("00", 3, 4), ("01", 5, 4), ("10", 4, 4), ("11", 6, 4)]))

    def test_tokens_at_the_leaf_stay(self):
        tree = Tree()
        for token in range(4):
            tree.come()
        tree.go(1)
        tree.widen("")
        self.assertEqual(tree.within(), [(0, ""), (2, ""), (3, "")])
        self.assertEqual([tree.go(token) for token in (3, 2, 0)], [("fork", "0"), ("fork", "1"), ("fork", "0")])
        tree.widen("0")
        self.assertEqual(tree.within(), [(0, "0"), (2, "1"), (3, "0")])
        self.assertEqual(tree.leaves(), [("00", 1, 4), ("01", 3, 4), ("1", 2, 2)])
        self.assertEqual([tree.go(token) for token in (0, 3)], [("fork", "00"), ("fork", "01")])
        told = [tree.go(token) for token in (0, 2, 3)]
        self.assertEqual(told, [("leaf", "00", 1), ("leaf", "1", 2), ("leaf", "01", 3)])

    def test_the_turn_begins_at_0_each_time(self):
        tree = widened("")
        tree.come()
        tree.go(0)
        tree.go(0)
        tree.narrow("")
        self.assertEqual(tree.leaves(), [("", 1, 1)])
        tree.widen("")
        self.assertEqual(tree.leaves(), [("0", 1, 2), ("1", 2, 2)])
        tree.come()
        self.assertEqual(tree.go(1), ("fork", "0"))

    def test_names_of_nine_and_of_ten_signs(self):
        for sign in "01":
            tree = widened(*[sign * many for many in range(9)])
            self.assertIn(sign * 9, [name for name, number, step in tree.leaves()])
            self.assertIsNone(tree.widen(sign * 9))
            self.assertIn(sign * 10, [name for name, number, step in tree.leaves()])
            self.assertEqual(len(tree.leaves()), 11)
            self.changes_nothing(tree, NoLeaf, tree.widen, sign * 10)
            self.assertEqual([step for name, number, step in tree.leaves() if len(name) == 10], [1024, 1024])
            self.changes_nothing(tree, NoFork, tree.narrow, sign * 8)
            tree.narrow(sign * 9)
            tree.widen(sign * 9)

    def test_no_leaf(self):
        tree = widened("", "1")
        tree.come()
        for name in ("", "1", "00", "01", "100", "101", "110", "0000000000", "1" * 11, "01" * 40):
            self.changes_nothing(tree, NoLeaf, tree.widen, name)
        for name in ("0", "10", "11"):
            tree.widen(name)
            self.changes_nothing(tree, NoLeaf, tree.widen, name)

    def test_what_was_narrowed_is_no_leaf_below(self):
        tree = widened("", "0")
        tree.narrow("0")
        for name in ("00", "01"):
            self.changes_nothing(tree, NoLeaf, tree.widen, name)
        tree.narrow("")
        for name in ("0", "1", "00"):
            self.changes_nothing(tree, NoLeaf, tree.widen, name)


class Narrowing(Trees):
    def test_back_to_what_was(self):
        tree = widened("")
        tree.narrow("")
        self.assertEqual(kinds(tree.leaves()), kinds([("", 0, 1)]))
        tree = widened("", "0", "1", "10")
        tree.narrow("10")
        self.assertEqual(kinds(tree.leaves()), kinds([("00", 0, 4), ("01", 2, 4), ("10", 1, 4), ("11", 3, 4)]))
        tree.narrow("1")
        tree.narrow("0")
        tree.narrow("")
        self.assertEqual(kinds(tree.leaves()), kinds([("", 0, 1)]))

    def test_the_lesser_of_both(self):
        for many in range(7):
            tree = widened("", "1")
            # The tokens on the second way go on to "10" and "11".
            for token in range(2 * many):
                tree.come()
                while tree.go(token)[0] != "leaf":
                    pass
            tree.narrow("1")
            self.assertEqual(kinds(tree.leaves()), kinds([("0", 2 * many, 2), ("1", 2 * many + 1, 2)]))
            tree.narrow("")
            self.assertEqual(kinds(tree.leaves()), kinds([("", 2 * many, 1)]))
            tree = widened("")
            for token in range(many):
                tree.come()
                tree.go(token)
                tree.go(token)
            tree.narrow("")
            self.assertEqual(kinds(tree.leaves()), kinds([("", many, 1)]))

    def test_tokens_at_the_fork_stay(self):
        tree = widened("")
        for token in range(3):
            tree.come()
        tree.go(0)
        tree.go(0)
        tree.narrow("")
        self.assertEqual(kinds(tree.within()), kinds([(1, ""), (2, "")]))
        self.assertEqual(kinds(tree.go(2)), kinds(("leaf", "", 1)))
        self.assertEqual(kinds(tree.go(1)), kinds(("leaf", "", 2)))
        self.assertEqual(kinds(tree.leaves()), kinds([("", 3, 1)]))

    def test_tokens_elsewhere_do_not_matter(self):
        tree = widened("", "0", "1")
        for token in range(5):
            tree.come()
        for token in (0, 1, 2, 3, 0, 2):
            tree.go(token)
        self.assertEqual(tree.within(), [(0, "00"), (1, "1"), (2, "01"), (3, "1"), (4, "")])
        self.changes_nothing(tree, NoFork, tree.narrow, "0")
        tree.narrow("1")
        self.assertEqual(tree.leaves(), [("00", 0, 4), ("01", 2, 4), ("1", 1, 2)])
        self.assertEqual([tree.go(3), tree.go(1)], [("leaf", "1", 1), ("leaf", "1", 3)])

    def test_tokens_at_either_leaf(self):
        tree = widened("")
        tree.come()
        tree.go(0)
        self.assertEqual(tree.within(), [(0, "0")])
        self.changes_nothing(tree, NoFork, tree.narrow, "")
        tree.go(0)
        tree.come()
        tree.go(1)
        self.assertEqual(tree.within(), [(1, "1")])
        self.changes_nothing(tree, NoFork, tree.narrow, "")
        tree.come()
        tree.go(2)
        self.changes_nothing(tree, NoFork, tree.narrow, "")
        tree.go(1)
        self.changes_nothing(tree, NoFork, tree.narrow, "")
        tree.go(2)
        tree.narrow("")
        self.assertEqual(tree.leaves(), [("", 3, 1)])

    def test_no_fork(self):
        tree = Tree()
        for name in ("", "0", "1", "00", "0" * 10, "1" * 40):
            self.changes_nothing(tree, NoFork, tree.narrow, name)
        tree.widen("")
        for name in ("0", "1", "00", "01", "10", "11", "0" * 11):
            self.changes_nothing(tree, NoFork, tree.narrow, name)

    def test_forks_over_forks(self):
        for below in (["0"], ["1"], ["0", "1"]):
            tree = widened("", *below)
            self.changes_nothing(tree, NoFork, tree.narrow, "")
            for name in below:
                tree.narrow(name)
                self.changes_nothing(tree, NoFork, tree.narrow, name)
            tree.narrow("")
            self.assertEqual(tree.leaves(), [("", 0, 1)])


class Lists(Trees):
    def test_rising(self):
        tree = widened("", "1", "10", "0", "00", "101")
        self.assertEqual([leaf[0] for leaf in tree.leaves()], ["000", "001", "01", "100", "1010", "1011", "11"])
        self.assertEqual(tree.leaves(), sorted(tree.leaves()))
        for token in range(12):
            tree.come()
        for token in (7, 3, 11, 0, 7, 5, 3):
            tree.go(token)
        self.assertEqual([token for token, name in tree.within()], list(range(12)))
        for token in (3, 3, 7):
            tree.go(token)
        self.assertEqual(tree.within(), sorted(tree.within()))

    def test_they_are_the_askers_own(self):
        tree = widened("")
        tree.come()
        leaves, within = tree.leaves(), tree.within()
        self.assertIsNot(tree.leaves(), leaves)
        self.assertIsNot(tree.within(), within)
        kept = kinds((leaves, within))
        tree.leaves().clear()
        tree.within().append((5, "0"))
        leaves.append(("11", 0, 1))
        within.clear()
        self.assertEqual(stand_of(tree), kept)

    def test_kept_ones_stay(self):
        tree = widened("")
        tree.come()
        leaves, within = tree.leaves(), tree.within()
        kept = kinds((leaves, within))
        tree.go(0)
        tree.come()
        tree.widen("1")
        tree.go(0)
        self.assertEqual(kinds((leaves, within)), kept)

    def test_two_trees_by_turns(self):
        one, other = Tree(), Tree()
        one.widen("")
        self.assertEqual(other.leaves(), [("", 0, 1)])
        self.assertEqual([one.come(), other.come(), one.come(), one.come(), other.come()], [0, 0, 1, 2, 1])
        self.assertEqual([one.go(0), other.go(0), one.go(1)], [("fork", "0"), ("leaf", "", 0), ("fork", "1")])
        other.widen("")
        self.assertEqual([one.go(2), other.go(1)], [("fork", "0"), ("fork", "0")])
        self.assertEqual([other.go(1), one.go(2)], [("leaf", "0", 1), ("leaf", "0", 0)])
        self.refused(NoToken, other.go, 0)
        other.narrow("")
        self.assertEqual((one.leaves(), other.leaves()), ([("0", 2, 2), ("1", 1, 2)], [("", 2, 1)]))
        self.assertEqual((one.within(), other.within()), ([(0, "0"), (1, "1")], []))


class Drawn(Trees):
    def step(self, chance, tree, bush):
        """One drawn step at a tree and at the bush, which must tell or refuse the same."""
        word = chance.choice(["come", "go", "go", "go", "go", "go", "widen", "narrow"])
        if word == "come":
            self.assertEqual(kinds(tree.come()), kinds(bush.come()))
            return
        if word == "go":
            within = [token for token, name in bush.within()]
            given = chance.choice(within) if within and chance.randrange(9) else chance.randrange(-2, 60)
        else:
            given = chance.choice(names_around(bush))
        try:
            expected = getattr(bush, word)(given)
        except LookupError:
            error = {"go": NoToken, "widen": NoLeaf, "narrow": NoFork}[word]
            self.changes_nothing(tree, error, getattr(tree, word), given)
        else:
            self.assertEqual(kinds(getattr(tree, word)(given)), kinds(expected))

    def test_as_a_bush_does(self):
        chance = random.Random(911)
        for k in range(40):
            tree, bush = Tree(), Bush()
            for step in range(150):
                self.step(chance, tree, bush)
                self.assertEqual(stand_of(tree), kinds((bush.leaves(), bush.within())))

    def test_just_the_first_numbers(self):
        chance = random.Random(919)
        for k in range(60):
            tree = Tree()
            taken, came = [], 0
            for step in range(200):
                word = chance.choice(["come", "come", "go", "go", "go", "widen", "narrow", "narrow"])
                if word == "come":
                    came += 1
                    self.assertEqual(tree.come(), came - 1)
                elif word == "go" and tree.within():
                    told = tree.go(chance.choice(tree.within())[0])
                    taken += [told[2]] if told[0] == "leaf" else []
                elif word == "widen":
                    name = chance.choice(tree.leaves())[0]
                    if len(name) <= 9:
                        tree.widen(name)
                elif word == "narrow":
                    name = chance.choice(tree.leaves())[0][:-1]
                    try:
                        tree.narrow(name)
                    except NoFork:
                        pass
            while tree.within():
                told = tree.go(chance.choice(tree.within())[0])
                taken += [told[2]] if told[0] == "leaf" else []
            self.assertEqual(len(taken), came)
            self.assertEqual(sorted(taken), list(range(came)))


if __name__ == "__main__":
    unittest.main()
