import random
import unittest

import oracle
from narcissus.errors import NoCode, TooLarge
from narcissus.order import MOST_LISTED, MOST_PAIRS, count, following, padded, programs_up_to, rank, unrank
from narcissus.programs import code, decode, is_program, parse, width
from narcissus.running import run
from narcissus.trees import cons, is_tree, number
from samples import FOREVER, INPUTS, REVERSE, SAMPLES, SWAP, all_different, ended, random_program, wide

# All trees of at most so many pairs are listed, in order.
LISTED = 8
LONG = 300
LARGEST = number(99999)


def in_order(trees):
    return sorted(trees, key=lambda tree: (len(tree), tree))


TREES = in_order([tree for pairs in range(LISTED + 1) for tree in oracle.trees_with(pairs)])


def last_of(pairs):
    return "1" * pairs + "0" * (pairs + 1)


def random_tree(chance, pairs):
    """Return a tree with so many pairs; where it has them is left to chance."""
    signs = []
    wanted = 1
    while pairs > 0:
        if wanted > 1 and chance.random() < 0.5:
            signs.append("0")
            wanted -= 1
        else:
            signs.append("1")
            wanted += 1
            pairs -= 1
    return "".join(signs) + "0" * wanted


def slow_following(tree):
    """Return the following tree by point 29: the first longer string of signs in order that is a tree."""
    size = len(tree)
    value = int(tree, 2)
    while True:
        value += 1
        if value >= 2 ** size:
            size += 2
            value = 0
        found = format(value, "b").zfill(size)
        if oracle.is_tree(found):
            return found


class Count(unittest.TestCase):
    def test_as_listed(self):
        self.assertEqual([count(pairs) for pairs in range(5)], [1, 1, 2, 5, 14])
        for pairs in range(LISTED + 1):
            self.assertEqual(count(pairs), len(oracle.trees_with(pairs)))

    def test_sum_of_products(self):
        for k in range(MOST_PAIRS + 10):
            self.assertEqual(count(k + 1), sum(count(i) * count(k - i) for i in range(k + 1)))
        self.assertIs(type(count(MOST_PAIRS)), int)
        self.assertEqual(count(-1), 0)


class Rank(unittest.TestCase):
    def test_first_trees(self):
        self.assertEqual(TREES[:5], ["0", "100", "10100", "11000", "1010100"])
        self.assertEqual([rank(tree) for tree in TREES[:5]], [0, 1, 2, 3, 4])
        self.assertEqual([unrank(at) for at in range(5)], TREES[:5])

    def test_all_small_trees(self):
        self.assertEqual(len(TREES), sum(count(pairs) for pairs in range(LISTED + 1)))
        for at, tree in enumerate(TREES):
            self.assertEqual(rank(tree), at)
            self.assertEqual(unrank(at), tree)

    def test_first_and_last_of_each_size(self):
        before = 0
        for pairs in range(MOST_PAIRS + 1):
            self.assertEqual(rank(number(pairs)), before)
            self.assertEqual(unrank(before), number(pairs))
            before += count(pairs)
            self.assertEqual(rank(last_of(pairs)), before - 1)
            self.assertEqual(unrank(before - 1), last_of(pairs))

    def test_back_and_forth(self):
        chance = random.Random(1)
        for _ in range(300):
            tree = random_tree(chance, chance.randint(9, MOST_PAIRS))
            self.assertTrue(oracle.is_tree(tree))
            self.assertEqual(unrank(rank(tree)), tree)
        total = sum(count(pairs) for pairs in range(MOST_PAIRS + 1))
        for _ in range(300):
            value = chance.randrange(total)
            tree = unrank(value)
            self.assertTrue(oracle.is_tree(tree))
            self.assertEqual(rank(tree), value)
        self.assertEqual(rank(last_of(MOST_PAIRS)), total - 1)

    def test_order(self):
        chance = random.Random(2)
        trees = [random_tree(chance, chance.choice([12, 13, 29, 30])) for _ in range(300)]
        self.assertEqual(sorted(trees, key=rank), in_order(trees))

    def test_somewhat_larger(self):
        chance = random.Random(3)
        for pairs in (31, 32, 60, 150):
            tree = random_tree(chance, pairs)
            self.assertEqual(unrank(rank(tree)), tree)


class Following(unittest.TestCase):
    def test_all_small_trees(self):
        for tree, expected in zip(TREES, TREES[1:]):
            self.assertEqual(following(tree), expected)
        self.assertEqual(following(TREES[-1]), number(LISTED + 1))

    def test_strings_between(self):
        chance = random.Random(4)
        for _ in range(50):
            tree = random_tree(chance, chance.randint(1, 9))
            self.assertEqual(following(tree), slow_following(tree))

    def test_ranks(self):
        chance = random.Random(5)
        for _ in range(500):
            tree = random_tree(chance, chance.randint(9, MOST_PAIRS))
            found = following(tree)
            self.assertTrue(oracle.is_tree(found))
            self.assertEqual(rank(found), rank(tree) + 1)
        for pairs in range(MOST_PAIRS + 1):
            self.assertEqual(following(last_of(pairs)), number(pairs + 1))

    def test_long_trees(self):
        # The tree behind a long one whose last part is small differs from it in that part alone.
        chance = random.Random(6)
        for _ in range(100):
            start = random_tree(chance, chance.choice([20, 500, 40000, 90000]))
            tree = random_tree(chance, chance.randint(2, 9))
            after_tree = following(tree)
            if len(after_tree) == len(tree):
                self.assertEqual(following(cons(start, tree)), cons(start, after_tree))
        for depth in (1000, 99990):
            self.assertEqual(following("10" * depth + "10100"), "10" * depth + "11000")
            self.assertEqual(following("1" * depth + "10100" + "0" * depth), "1" * depth + "11000" + "0" * depth)

    def test_long_trees_with_a_last_part(self):
        # Behind the last tree of a size the part in front of it becomes larger by a pair.
        for pairs in (3, 100, 49997):
            tree = cons("10100", last_of(pairs))
            self.assertEqual(following(tree), cons("1010100", number(pairs - 1)))
            tree = cons("0", last_of(pairs))
            self.assertEqual(following(tree), cons("100", number(pairs - 1)))
            tree = cons("0", cons("10100", last_of(pairs)))
            self.assertEqual(following(tree), cons("0", cons("1010100", number(pairs - 1))))
            tree = cons(last_of(pairs), last_of(pairs))
            self.assertEqual(following(tree), cons("1" * pairs + "0" * pairs + "100", number(pairs - 1)))

    def test_greatest_size(self):
        self.assertEqual(following(last_of(99998)), LARGEST)
        self.assertEqual(following(LARGEST), "10" * 99997 + "11000")
        second_last = "1" * 99998 + "01" + "0" * 99999
        self.assertTrue(is_tree(second_last))
        self.assertEqual(following(second_last), last_of(99999))
        for tree in (last_of(99999), "10" * 100000 + "0", last_of(100000), "10" * 100001 + "0"):
            with self.assertRaises(TooLarge):
                following(tree)
        chance = random.Random(7)
        for _ in range(5):
            tree = random_tree(chance, 99999)
            found = following(tree)
            self.assertTrue(is_tree(found))
            self.assertEqual(len(found), len(tree))
            self.assertGreater(found, tree)

    def test_many_in_a_row(self):
        for start in (number(100), random_tree(random.Random(8), 200), "1" * 300 + "0" * 295 + "10" * 20 + "000000"):
            self.assertTrue(is_tree(start))
            tree = start
            for at in range(1, 200):
                tree = following(tree)
                self.assertEqual(rank(tree), rank(start) + at)


class Padded(unittest.TestCase):
    def test_results_and_steps(self):
        chance = random.Random(9)
        ends = 0
        for at in range(200):
            program = random_program(chance, chance.randrange(13), 4) if at > 20 else chance.choice(SAMPLES + (REVERSE,))
            many = chance.choice([0, 1, 2, 3, 10, 100])
            made = padded(program, many)
            self.assertTrue(is_program(made))
            self.assertEqual(len(made), len(program) + many)
            for x in INPUTS:
                expected = ended(program, x, LONG)
                if expected is None:
                    self.assertIsNone(ended(made, x, LONG + many))
                else:
                    ends += 1
                    self.assertEqual(run(made, x, 1000), (expected[0], expected[1] + many))
        self.assertGreater(ends, 500)

    def test_jumps(self):
        # Jumps to the first instruction do not do again what was added.
        program = parse("tail 0 0; jump 0 -1")
        for many in range(6):
            self.assertEqual(run(padded(program, many), number(9), 100), ("0", 18 + many))
        self.assertIsNone(ended(padded(FOREVER, 5), "0", 100000))

    def test_each_register_and_width(self):
        fill = [("set", r, number(r)) for r in range(1, 20)] + [("cons", 0, 0, r) for r in range(1, 20)]
        look = [("cons", 0, 0, r) for r in range(1, 20)]
        for many in (0, 1, 7):
            for program in (fill, look, wide(20), wide(17)):
                expected, steps = run(program, "11000", 100)
                self.assertEqual(run(padded(program, many), "11000", 100), (expected, steps + many))

    def test_different_codes(self):
        for program in SAMPLES + (REVERSE, [("move", 0, 0)], [("jump", 0, 1)] * 3, [("set", 19, "0")]):
            codes = [code(padded(program, many)) for many in range(40)]
            self.assertEqual(len(set(codes)), 40)
            if len(program) == 0:
                self.assertEqual(codes[0], "0")

    def test_number_of_instructions(self):
        for program in ([], SWAP, [("move", 19, 19)] * 599, [("move", 19, 19)] * 600, [("set", 0, LARGEST)]):
            most = 600 - len(program)
            self.assertEqual(len(padded(program, most)), 600)
            self.assertTrue(is_program(padded(program, most)))
            for many in (most + 1, most + 2, 600, 601):
                if many > most:
                    with self.assertRaises(TooLarge):
                        padded(program, many)
        self.assertEqual(run(padded([], 600), "100", 600), ("100", 600))
        halves = [("set", 0, number(49999)), ("set", 0, number(49999))]
        self.assertTrue(is_program(padded(halves, 598)))

    def test_no_effects(self):
        program = list(SWAP)
        for many in (0, 3):
            first = padded(program, many)
            expected = list(first)
            second = padded(program, many)
            self.assertTrue(all_different([program, first, second]))
            first.clear()
            self.assertEqual(program, SWAP)
            self.assertEqual(second, expected)
            self.assertEqual(padded(program, many), expected)


class ProgramsUpTo(unittest.TestCase):
    def test_against_decoding(self):
        for most in range(MOST_LISTED + 1):
            expected = []
            for tree in TREES:
                if tree.count("1") <= most:
                    try:
                        expected.append(decode(tree))
                    except NoCode:
                        pass
            self.assertEqual(programs_up_to(most), expected)

    def test_against_listing(self):
        for most in range(MOST_LISTED + 1):
            found = programs_up_to(most)
            codes = [code(program) for program in found]
            self.assertEqual(codes, in_order(set(codes)))
            self.assertEqual(codes, in_order({oracle.code(program) for program in oracle.programs_with(most)}))
            for program, tree in zip(found, codes):
                self.assertTrue(is_program(program))
                self.assertLessEqual(tree.count("1"), most)
        self.assertLessEqual(max(width(program) for program in programs_up_to(8)), 20)

    def test_fewest(self):
        self.assertEqual(programs_up_to(0), [[]])
        self.assertEqual(programs_up_to(2), [[]])
        self.assertEqual(programs_up_to(3), [[], [("set", 0, "0")]])
        set_0, set_100, set_1, move = parse("set 0 0; set 0 100; set 1 0; move 0 0")
        self.assertEqual(programs_up_to(4), [[], [set_0], [set_100], [set_1], [move]])

    def test_somewhat_more(self):
        found = [oracle.code(program) for program in oracle.programs_with(9)]
        self.assertEqual([code(program) for program in programs_up_to(9)], in_order(found))

    def test_the_same_each_time(self):
        first = programs_up_to(5)
        expected = [list(program) for program in first]
        second = programs_up_to(5)
        self.assertTrue(all_different([first, second] + first + second))
        first[0].append(("head", 0, 0))
        first[1].clear()
        first.pop()
        self.assertEqual(second, expected)
        self.assertEqual(programs_up_to(5), expected)


if __name__ == "__main__":
    unittest.main()
