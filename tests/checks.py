"""What the tests of programs that know codes have in common."""

import random
import unittest

from narcissus.errors import TooLarge, TooWide
from narcissus.programs import code, decode, is_program, parse, width
from narcissus.trees import number
from samples import SAMPLES, SWAP, all_different, random_program, wide, with_code_size


def some_programs(seed, many):
    chance = random.Random(seed)
    found = list(SAMPLES)
    for _ in range(many):
        found.append(random_program(chance, chance.randrange(13), chance.choice([1, 2, 3, 4, 8, 9, 16])))
    return found


class Checks(unittest.TestCase):
    def assert_form(self, program, widest):
        """Hold a program as one that has a code, with at most this width."""
        self.assertTrue(is_program(program))
        self.assertLessEqual(width(program), widest)
        self.assertEqual(decode(code(program)), program)

    def assert_too_wide(self, function):
        """Hold the limit of widths, which comes before all others."""
        self.assertTrue(is_program(function(wide(16))))
        for program in (wide(17), wide(20), [("set", 16, "0")], parse("jump 17 0"), [("cons", 0, 0, 18)]):
            with self.assertRaises(TooWide):
                function(program)
            with self.assertRaises(TooWide):
                function(program + [("move", 0, 0)] * 599)
            with self.assertRaises(TooWide):
                function(program + [("set", 0, number(99900))])

    def assert_sizes(self, function, count, size):
        """Hold that TooLarge is not raised for programs with so many instructions and such codes."""
        for most in (count, 1, count // 2):
            program = with_code_size(most, size - 1 + size % 2)
            self.assertTrue(is_program(function(program)))
            code(function(program))
        self.assertTrue(is_program(function([("move", 0, 0)] * count)))
        self.assertTrue(is_program(function([("jump", 0, 0)] * count)))

    def assert_too_large(self, function):
        """Hold that TooLarge is raised exactly if the result would not be a program with a code."""
        added = len(function([]))
        self.assertTrue(is_program(function([("move", 0, 0)] * (600 - added))))
        for count in (601 - added, 600):
            with self.assertRaises(TooLarge):
                function([("move", 0, 0)] * count)
        # The code of the result grows by 4 if the tree of the given program grows by 2.
        least = len(code(function([("set", 0, "0")])))
        n = (200000 - least) // 4
        largest = function([("set", 0, number(n))])
        self.assertTrue(is_program(largest))
        self.assertLessEqual(len(code(largest)), 200000)
        self.assertGreater(len(code(largest)), 199996)
        for more in (n + 1, n + 2, 60000, 99999):
            with self.assertRaises(TooLarge):
                function([("set", 0, number(more))])
        with self.assertRaises(TooLarge):
            function([("set", 0, number(n)), ("set", 0, "0")])

    def assert_no_effects(self, function):
        """Hold that the argument stays as it is, and that results are new."""
        program = list(SWAP)
        first = function(program)
        expected = list(first)
        second = function(program)
        self.assertEqual(program, SWAP)
        self.assertEqual(second, expected)
        self.assertTrue(all_different([program, first, second]))
        first[0] = ("set", 0, "0")
        first.pop()
        program.append(("head", 0, 0))
        self.assertEqual(second, expected)
        self.assertEqual(function(list(SWAP)), expected)
        self.assertNotEqual(function(program), expected)
