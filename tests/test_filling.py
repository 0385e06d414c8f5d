import random
import unittest

from narcissus.building import chain
from narcissus.errors import TooLarge
from narcissus.filling import filled, filler
from narcissus.programs import code, decode, is_program, parse, width
from narcissus.running import after, run
from narcissus.trees import cons, number
from samples import (
    END_ON_LEAF, FOREVER, HEAD, INPUTS, LOOK_AT_REGISTERS, REVERSE, SAMPLES, SWAP, TAIL, all_different, ended,
    random_program, wide,
)

LARGEST = number(99999)
LONG = 300


class Filled(unittest.TestCase):
    def test_as_text(self):
        self.assertEqual(filled([], "0"), parse("set 1 0; cons 0 1 0; set 1 0"))
        self.assertEqual(filled(SWAP, "11000"), parse("set 1 11000; cons 0 1 0; set 1 0") + SWAP)

    def test_wording_for_many_programs(self):
        chance = random.Random(1)
        for _ in range(200):
            program = random_program(chance, chance.randrange(30), chance.choice([1, 4, 17, 20]))
            for tree in INPUTS:
                made = filled(program, tree)
                self.assertEqual(made, [("set", 1, tree), ("cons", 0, 1, 0), ("set", 1, "0")] + program)
                self.assertTrue(is_program(made))

    def test_results_and_steps(self):
        chance = random.Random(2)
        ends = 0
        for _ in range(200):
            program = chance.choice(SAMPLES + (REVERSE,) + (random_program(chance, 6, chance.choice([2, 4, 20])),) * 8)
            for x in INPUTS:
                tree = chance.choice(INPUTS)
                expected = ended(program, cons(tree, x), LONG)
                found = ended(filled(program, tree), x, LONG + 3)
                self.assertEqual(found, expected and (expected[0], expected[1] + 3))
                ends += expected is not None
        self.assertGreater(ends, 300)
        self.assertLess(ends, 200 * len(INPUTS) - 100)

    def test_registers_are_clean(self):
        for tree in INPUTS:
            state, done = after(filled([], tree), "100", 10)
            self.assertEqual((state[1], done), ((cons(tree, "100"),) + ("0",) * 19, 3))
        self.assertEqual(
            run(filled(LOOK_AT_REGISTERS, "100"), "100", 11)[0], run(LOOK_AT_REGISTERS, "1100100", 8)[0]
        )

    def test_no_end(self):
        self.assertIsNone(ended(filled(END_ON_LEAF, "0"), "0", 1000000))
        self.assertIsNone(ended(filled(FOREVER, "0"), "0", 10000))

    def test_every_width(self):
        for count in range(1, 21):
            made = filled(wide(count), "100")
            self.assertEqual(made[3:], wide(count))
            self.assertEqual(width(made), max(2, count))

    def test_number_of_instructions(self):
        made = filled([("move", 19, 0)] * 597, "0")
        self.assertEqual(len(made), 600)
        self.assertTrue(is_program(made))
        for count in (598, 599, 600):
            with self.assertRaises(TooLarge):
                filled([("move", 19, 0)] * count, "0")

    def test_characters_of_trees(self):
        # The trees are the given one, "0", and those of the program.
        self.assertTrue(is_program(filled([], LARGEST)))
        with self.assertRaises(TooLarge):
            filled([("set", 0, "0")], LARGEST)
        half = number(49999)
        self.assertTrue(is_program(filled([("set", 0, half)], half)))
        self.assertTrue(is_program(filled([("set", 0, number(50000))], number(49998))))
        for tree, other in ((number(49999), number(50000)), (number(50000), number(49999))):
            with self.assertRaises(TooLarge):
                filled([("set", 0, tree)], other)
        with self.assertRaises(TooLarge):
            filled([], number(100000))
        self.assertTrue(is_program(filled([("set", 0, half), ("set", 3, "0")], half)))
        with self.assertRaises(TooLarge):
            filled([("set", 0, half), ("set", 3, "0"), ("set", 3, "0")], half)

    def test_no_effects(self):
        program = list(SWAP)
        first = filled(program, "100")
        expected = list(first)
        second = filled(program, "100")
        self.assertTrue(all_different([program, first, second]))
        first[0] = ("set", 0, "0")
        first.pop()
        self.assertEqual(program, SWAP)
        self.assertEqual(second, expected)
        self.assertEqual(filled(program, "100"), expected)
        program.clear()
        self.assertEqual(second, expected)


class Filler(unittest.TestCase):
    def assert_fills(self, program, tree):
        result, steps = run(filler(), cons(code(program), tree), 60)
        self.assertLessEqual(steps, 60)
        self.assertEqual(result, code(filled(program, tree)))

    def test_form(self):
        self.assertTrue(is_program(filler()))
        self.assertLessEqual(width(filler()), 8)

    def test_results(self):
        chance = random.Random(3)
        programs = list(SAMPLES) + [REVERSE, filler(), filled(filler(), "100"), wide(20)]
        programs += [random_program(chance, chance.randrange(40), 20) for _ in range(60)]
        for program in programs:
            for tree in INPUTS:
                self.assert_fills(program, tree)

    def test_decoded(self):
        result = run(filler(), cons(code(SWAP), "11000"), 60)[0]
        self.assertEqual(decode(result), parse("set 1 11000; cons 0 1 0; set 1 0; head 1 0; tail 2 0; cons 0 2 1"))

    def test_large(self):
        self.assert_fills([], number(90000))
        self.assert_fills([], "1" * 90000 + "0" * 90001)
        self.assert_fills([("set", 19, number(40000))], number(40000))
        self.assert_fills([("move", 0, 0)] * 597, number(1000))
        self.assert_fills([("cons", 19, 19, 19)] * 597, "100")

    def test_filled_several_times(self):
        program = TAIL
        expected = TAIL
        for tree in INPUTS:
            program = decode(run(filler(), cons(code(program), tree), 60)[0])
            expected = filled(expected, tree)
        self.assertEqual(program, expected)

    def test_as_part(self):
        # Two inputs, one filled in: the program that fills in its own code.
        fill_itself = chain([parse("cons 0 0 0"), filler()])
        result = run(fill_itself, code(HEAD), 100)[0]
        self.assertEqual(decode(result), filled(HEAD, code(HEAD)))
        self.assertEqual(run(decode(result), "100", 10), (code(HEAD), 4))

    def test_the_same_each_time(self):
        first = filler()
        expected = list(first)
        second = filler()
        self.assertEqual(second, expected)
        self.assertTrue(all_different([first, second]))
        first.clear()
        self.assertEqual(second, expected)
        self.assertEqual(filler(), expected)


if __name__ == "__main__":
    unittest.main()
