import itertools
import random
import unittest

import oracle
from narcissus.errors import TooLarge
from narcissus.trees import MOST_TREE, cons, head, is_tree, items_of, list_of, number, tail, value_of

SMALL = [tree for pairs in range(7) for tree in oracle.trees_with(pairs)]

# Trees of 199,999 characters, the most that an odd size allows.
IN_TAILS = "10" * 99999 + "0"
IN_HEADS = "1" * 99999 + "0" * 100000
BY_TURNS = "110" * 49999 + "100" + "0" * 49999
DEEP = (IN_TAILS, IN_HEADS, BY_TURNS)


def random_tree(chance, pairs):
    """Return a tree with so many pairs."""
    trees = ["0"]
    for _ in range(pairs):
        trees.append("0")
    while len(trees) > 1:
        first = trees.pop(chance.randrange(len(trees)))
        second = trees.pop(chance.randrange(len(trees)))
        trees.append("1" + first + second)
    return trees[0]


class IsTree(unittest.TestCase):
    def test_all_short_strings(self):
        for length in range(14):
            for signs in itertools.product("01", repeat=length):
                line = "".join(signs)
                self.assertIs(is_tree(line), oracle.is_tree(line), line)

    def test_short_strings_with_other_signs(self):
        for length in range(1, 6):
            for signs in itertools.product("01 2\n", repeat=length):
                line = "".join(signs)
                self.assertIs(is_tree(line), oracle.is_tree(line), line)

    def test_changed_signs(self):
        chance = random.Random(3)
        for pairs in (1, 2, 5, 20, 100):
            tree = random_tree(chance, pairs)
            self.assertIs(is_tree(tree), True)
            for at in range(len(tree)):
                other = "1" if tree[at] == "0" else "0"
                self.assertIs(is_tree(tree[:at] + tree[at + 1:]), False)
                self.assertIs(is_tree(tree[:at] + other + tree[at + 1:]), False)
                for sign in "01":
                    self.assertIs(is_tree(tree[:at] + sign + tree[at:]), False)
                for sign in ("x", " ", "\u0661", "\u00b9", "\ud800", "\0"):
                    self.assertIs(is_tree(tree[:at] + sign + tree[at + 1:]), False)

    def test_exchanged_signs(self):
        tree = "110010100"
        for first, second in itertools.combinations(range(len(tree)), 2):
            signs = list(tree)
            signs[first], signs[second] = signs[second], signs[first]
            line = "".join(signs)
            self.assertIs(is_tree(line), oracle.is_tree(line), line)

    def test_no_strings(self):
        values = [
            None, True, False, 0, 1, 10, -1, 10 ** 5000, [], (), ["0"], ("0",), ["1", "0", "0"], [["0"], "0"], [0],
        ]
        for value in values:
            self.assertIs(is_tree(value), False)

    def test_no_string_however_deep(self):
        value = []
        for _ in range(100000):
            value = [value]
        self.assertIs(is_tree(value), False)

    def test_largest(self):
        self.assertEqual(MOST_TREE, 200000)
        for tree in DEEP:
            self.assertEqual(len(tree), 199999)
            self.assertIs(is_tree(tree), True)

    def test_too_large(self):
        for tree in ("10" * 100000 + "0", "1" * 100000 + "0" * 100001, "1" + IN_TAILS + "0"):
            self.assertEqual(len(tree), 200001)
            self.assertIs(is_tree(tree), False)
        self.assertIs(is_tree(IN_TAILS + "0"), False)
        self.assertIs(is_tree("10" * 300000 + "0"), False)

    def test_deep_ones_with_a_sign_changed(self):
        for tree in DEEP:
            for at in (0, 1, 2, 99999, 199997, 199998):
                other = "1" if tree[at] == "0" else "0"
                self.assertIs(is_tree(tree[:at] + tree[at + 1:]), False)
                self.assertIs(is_tree(tree[:at] + other + tree[at + 1:]), False)
                self.assertIs(is_tree(tree[:at] + "2" + tree[at + 1:]), False)


class Cons(unittest.TestCase):
    def test_head_and_tail_of_the_leaf(self):
        self.assertEqual(head("0"), "0")
        self.assertEqual(tail("0"), "0")

    def test_small_trees(self):
        for first, second in itertools.product(SMALL[:60], SMALL):
            tree = cons(first, second)
            self.assertEqual(tree, "1" + first + second)
            self.assertEqual(head(tree), first)
            self.assertEqual(tail(tree), second)

    def test_random_trees(self):
        chance = random.Random(4)
        for _ in range(200):
            first = random_tree(chance, chance.randrange(60))
            second = random_tree(chance, chance.randrange(60))
            tree = cons(first, second)
            self.assertEqual((head(tree), tail(tree)), (first, second))

    def test_deep_trees(self):
        self.assertEqual((head(IN_TAILS), tail(IN_TAILS)), ("0", "10" * 99998 + "0"))
        self.assertEqual((head(IN_HEADS), tail(IN_HEADS)), ("1" * 99998 + "0" * 99999, "0"))
        inner = "10" + "110" * 49998 + "100" + "0" * 49998
        self.assertEqual((head(BY_TURNS), tail(BY_TURNS)), (inner, "0"))
        self.assertEqual((head(inner), tail(inner)), ("0", "110" * 49998 + "100" + "0" * 49998))

    def test_largest(self):
        for size in (0, 1, 49999, 99998):
            first = number(size)
            second = number(99998 - size)
            tree = cons(first, second)
            self.assertEqual(len(tree), 199999)
            self.assertEqual((head(tree), tail(tree)), (first, second))
            with self.assertRaises(TooLarge):
                cons(first, number(99999 - size))
            with self.assertRaises(TooLarge):
                cons(number(99999 - size), first)

    def test_much_too_large(self):
        for first, second in itertools.product(DEEP, repeat=2):
            with self.assertRaises(TooLarge):
                cons(first, second)


class Numbers(unittest.TestCase):
    def test_small(self):
        self.assertEqual([number(value) for value in range(4)], ["0", "100", "10100", "1010100"])
        for value in range(200):
            tree = oracle.sign_string(oracle.number(value))
            self.assertEqual(number(value), tree)
            self.assertEqual(value_of(tree), value)

    def test_largest(self):
        self.assertEqual(number(99999), IN_TAILS)
        self.assertEqual(value_of(IN_TAILS), 99999)
        for value in (100000, 100001, 200000, 10 ** 9, 10 ** 30, 10 ** 5000):
            with self.assertRaises(TooLarge):
                number(value)

    def test_no_numbers(self):
        numbers = [number(value) for value in range(7)]
        for tree in SMALL:
            if tree in numbers:
                self.assertEqual(number(value_of(tree)), tree)
            else:
                self.assertIsNone(value_of(tree))
        for tree in (IN_HEADS, BY_TURNS, "10" * 99997 + "11000", "1100" + "10" * 99997 + "0"):
            self.assertIsNone(value_of(tree))

    def test_the_value_of_the_leaf_is_an_integer(self):
        self.assertIs(type(value_of("0")), int)
        self.assertEqual(value_of("0"), 0)


class Lists(unittest.TestCase):
    def test_small(self):
        self.assertEqual(list_of([]), "0")
        self.assertEqual(list_of(["0"]), "100")
        self.assertEqual(list_of(["100", "0"]), "1100100")
        for trees in itertools.product(SMALL[:8], repeat=3):
            tree = oracle.sign_string(oracle.list_of([oracle.tree_of(item) for item in trees]))
            self.assertEqual(list_of(list(trees)), tree)
            self.assertEqual(items_of(tree), list(trees))

    def test_each_tree_is_a_list(self):
        for tree in SMALL + list(DEEP):
            self.assertEqual(list_of(items_of(tree)), tree)

    def test_deep(self):
        self.assertEqual(items_of(IN_TAILS), ["0"] * 99999)
        self.assertEqual(items_of(IN_HEADS), ["1" * 99998 + "0" * 99999])
        self.assertEqual(items_of(BY_TURNS), ["10" + "110" * 49998 + "100" + "0" * 49998])

    def test_largest(self):
        self.assertEqual(list_of(["0"] * 99999), IN_TAILS)
        self.assertEqual(len(list_of([number(9998)] * 10 + [number(4)])), 199991)
        for trees in (["0"] * 100000, [IN_TAILS], ["0"] * 99998 + ["100"], ["100"] + ["0"] * 99998, DEEP):
            with self.assertRaises(TooLarge):
                list_of(list(trees))
        first = number(49998)
        self.assertEqual(len(list_of([first, number(49999)])), 199999)
        with self.assertRaises(TooLarge):
            list_of([first, number(50000)])
        self.assertEqual(len(list_of([number(99998)])), 199999)
        with self.assertRaises(TooLarge):
            list_of([number(99999)])

    def test_lists_may_be_changed(self):
        trees = ["100", "0"]
        tree = list_of(trees)
        self.assertEqual(trees, ["100", "0"])
        trees.append("0")
        found = items_of(tree)
        found[0] = "other"
        found.append("0")
        self.assertEqual(items_of(tree), ["100", "0"])
        self.assertEqual(list_of(["100", "0"]), tree)
        self.assertEqual(list_of(trees), "110010100")
        self.assertIsNot(items_of("0"), items_of("0"))


if __name__ == "__main__":
    unittest.main()
