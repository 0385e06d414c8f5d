import random
import unittest

from checks import Checks, some_programs
from narcissus.building import chain, choice, constant, loop
from narcissus.errors import OutOfSteps, TooLarge, TooWide
from narcissus.programs import code, decode, is_program, parse, width
from narcissus.rings import MOST_RING, ring, together
from narcissus.running import run
from narcissus.trees import cons, items_of, list_of, number, tail
from narcissus.universe import universal
from samples import (
    END_ON_LEAF, FOREVER, HEAD, INPUTS, LOOK_AT_REGISTERS, NARROW_REVERSE, SAMPLES, SWAP, TAIL,
    all_different, ended, wide, with_code_size,
)

LONG = 300
LARGEST = number(99999)


def codes_of(programs):
    return list_of([code(program) for program in programs])


def some_lists(seed, many):
    """Return lists of 1 to MOST_RING programs."""
    chance = random.Random(seed)
    programs = some_programs(seed, 100)
    return [[chance.choice(programs) for _ in range(1 + at % MOST_RING)] for at in range(many)]


class Together(Checks):
    def assert_together(self, programs, inputs):
        """Hold runs of the programs that are made against those of the given ones, and count those that end."""
        made = together(programs)
        self.assertEqual(len(made), len(programs))
        codes = codes_of(made)
        ends = 0
        for program, e in zip(programs, made):
            for x in inputs:
                expected = ended(program, cons(codes, x), LONG)
                if expected is None:
                    self.assertIsNone(ended(e, x, LONG))
                    continue
                ends += 1
                result, steps = run(e, x, expected[1] + 60 + 30 * len(programs))
                self.assertEqual(result, expected[0])
                self.assertGreaterEqual(steps, expected[1])
        return ends

    def test_form(self):
        for programs in some_lists(1, 80) + [[program] for program in SAMPLES]:
            widest = max([12] + [width(program) for program in programs])
            made = together(programs)
            self.assertIs(type(made), list)
            self.assertEqual(len(made), len(programs))
            for e in made:
                self.assert_form(e, widest)

    def test_results_and_steps(self):
        ends = runs = 0
        for programs in some_lists(2, 80):
            ends += self.assert_together(programs, INPUTS[:5])
            runs += len(programs) * 5
        self.assertGreater(ends, 1000)
        self.assertLess(ends, runs - 100)

    def test_each_sample_alone(self):
        for program in SAMPLES:
            self.assert_together([program], INPUTS)

    def test_codes_in_order(self):
        for n in range(1, MOST_RING + 1):
            # Each program returns the item of the list that has its number, from the back.
            programs = [[("head", 0, 0)] + [("tail", 0, 0)] * (n - 1 - i) + [("head", 0, 0)] for i in range(n)]
            made = together(programs)
            self.assertEqual(len({str(e) for e in made}), n)
            for i in range(n):
                self.assertEqual(run(made[i], "11000", 60 + 30 * n + n + 2)[0], code(made[n - 1 - i]))

    def test_whole_list_and_input(self):
        programs = [HEAD, TAIL, [], SWAP]
        made = together(programs)
        codes = codes_of(made)
        for x in INPUTS:
            self.assertEqual(run(made[0], x, 181)[0], codes)
            self.assertEqual(run(made[1], x, 181)[0], x)
            self.assertEqual(run(made[2], x, 180)[0], cons(codes, x))
            self.assertEqual(run(made[3], x, 183)[0], cons(x, codes))

    def test_equal_programs(self):
        made = together([HEAD] * MOST_RING)
        self.assertEqual(made, [made[0]] * MOST_RING)
        self.assertTrue(all_different(made))
        self.assertEqual(items_of(run(made[5], "0", 301)[0]), [code(made[0])] * MOST_RING)

    def test_registers_are_clean(self):
        for count in (1, 8):
            programs = [LOOK_AT_REGISTERS] * count
            made = together(programs)
            codes = codes_of(made)
            for x in INPUTS:
                self.assertEqual(run(made[-1], x, 1000)[0], run(LOOK_AT_REGISTERS, cons(codes, x), 8)[0])
        for r in range(1, 16):
            for e in together([[("move", 0, r)], [("move", 0, r), ("jump", r, 0)]]):
                self.assertEqual(run(e, "11000", 122)[0], "0")

    def test_no_end(self):
        made = together([HEAD, FOREVER, END_ON_LEAF, loop([], constant("100"))])
        self.assertEqual(run(made[0], "100", 181)[0], codes_of(made))
        for e in made[1:]:
            with self.assertRaises(OutOfSteps):
                run(e, "100", 1000000)
        # This one ends on the leaf alone.
        made = together([parse("tail 0 0; jump 0 0"), parse("tail 0 0; set 1 100; jump 0 2; jump 1 0")])
        self.assertEqual(run(made[0], "0", 122)[0], "0")
        self.assertEqual(run(made[1], "100", 124)[0], "100")
        for e, x in ((made[0], "100"), (made[1], "0")):
            with self.assertRaises(OutOfSteps):
                run(e, x, 1000000)

    def test_a_program_that_runs_the_other_one(self):
        # The first program runs the second one on the tail of its input, unless that is the leaf.
        to_other = parse("tail 1 0; tail 1 1; head 0 0; tail 0 0; head 0 0; cons 0 0 1")
        other = parse("head 1 0; head 1 1; tail 0 0; cons 0 1 0")
        made = together([choice(TAIL, chain([to_other, universal()]), constant("100")), other])
        self.assertEqual(run(made[1], "100", 1000)[0], cons(code(made[0]), "100"))
        self.assertEqual(run(made[0], "0", 1000)[0], "100")
        for x in INPUTS[1:]:
            self.assertEqual(run(made[0], x, 1000000)[0], cons(code(made[0]), tail(x)))

    def test_size_of_the_codes(self):
        lists = [[[]] * MOST_RING, [HEAD] * 8, [with_code_size(1, 249)] * 8, [with_code_size(41, 249)] * 8]
        for size, count in ((1993, 1), (1993, 332), (1993, 100)):
            program = with_code_size(count, size)
            lists += [[program] + [[]] * 7, [[]] * 7 + [program], [[]] * 3 + [program] + [[]] * 4]
        lists += [[with_code_size(count, 1999)] for count in (1, 333)]
        widest = ("cons", 15, 15, 15)
        lists += [[[widest] * 2] * 8, [[widest] * 19] + [[]] * 7, [[("move", 15, 15)] * 3] * 8]
        for programs in lists:
            self.assertLessEqual(sum(len(code(program)) for program in programs), 2000)
            made = together(programs)
            self.assertLessEqual(len(codes_of(made)), 150000)
            for e in made:
                self.assertTrue(is_program(e))
                self.assertLessEqual(width(e), 16)

    def test_no_step_is_too_large(self):
        for size, count, others in (
            (9991, 1, 7), (9991, 90, 7), (9991, 500, 7), (9999, 1, 0), (9999, 500, 0), (5001, 1, 3), (31, 1, 7),
        ):
            programs = [with_code_size(count, size)] + [[]] * others
            left = 10000 - sum(len(code(program)) for program in programs)
            for x in (number((left - 1) // 2), "1" * ((left - 1) // 2) + "0" * ((left + 1) // 2)):
                self.assertEqual(self.assert_together(programs[::-1], [x]), others + (count < LONG))
        x = number(4990)
        self.assertEqual(self.assert_together([[]] * 8, [x]), 8)
        self.assertEqual(self.assert_together([with_code_size(1, 1249)] * 8, ["0"]), 8)

    def test_too_wide(self):
        self.assert_too_wide(lambda program: together([program])[0])
        for at in range(4):
            for large in ([], [("move", 0, 0)] * 600, [("set", 0, LARGEST)]):
                programs = [large] * 4
                programs[at] = wide(17)
                with self.assertRaises(TooWide):
                    together(programs)
        made = together([wide(16)] * 8)
        self.assertEqual([width(e) for e in made], [16] * 8)
        self.assertEqual(run(made[3], "100", 301)[0], cons(codes_of(made), "100"))

    def test_too_many_instructions(self):
        added = len(together([[]])[0])
        for others in (0, 3):
            made = together([[("move", 0, 0)] * (600 - added)] + [[]] * others)
            self.assertTrue(all(is_program(e) for e in made))
            self.assertEqual(len(made[0]), 600)
            for count in (601 - added, 600):
                with self.assertRaises(TooLarge):
                    together([[("move", 0, 0)] * count] + [[]] * others)
                with self.assertRaises(TooLarge):
                    together([[]] * others + [[("move", 0, 0)] * count])

    def test_too_large(self):
        # TooLarge is raised exactly if the list of all codes is too large, which grows in equal steps.
        for n in (1, 2, 5, 8):
            for at in {0, n - 1}:
                def of_size(value):
                    programs = [[("set", 0, "0")] for _ in range(n)]
                    programs[at] = [("set", 0, number(value))]
                    return programs

                least = len(codes_of(together(of_size(0))))
                growth = len(codes_of(together(of_size(1)))) - least
                most = (200000 - least) // growth
                made = together(of_size(most))
                self.assertLessEqual(len(codes_of(made)), 200000)
                self.assertGreater(len(codes_of(made)), 200000 - growth)
                for e in made:
                    self.assertTrue(is_program(e))
                for value in (most + 1, most + 2, 50000, 99990, 99999):
                    with self.assertRaises(TooLarge):
                        together(of_size(value))

    def test_too_large_list_of_small_codes(self):
        # Each code alone may be large enough: only the list of them may not.
        program = [("set", 0, number(9000))]
        codes = [code(e) for e in together([program, []])]
        self.assertLess(max(len(tree) for tree in codes), 100000)
        with self.assertRaises(TooLarge):
            together([program] * 8)

    def test_no_effects(self):
        programs = [list(SWAP), list(HEAD), []]
        held = list(programs)
        first = together(programs)
        expected = [list(e) for e in first]
        second = together(programs)
        self.assertEqual(programs, [SWAP, HEAD, []])
        self.assertTrue(all(a is b for a, b in zip(programs, held)))
        self.assertEqual(second, expected)
        self.assertTrue(all_different([programs, first, second] + programs + first + second))
        first[0].clear()
        first[1][0] = ("set", 0, "0")
        first.pop()
        self.assertEqual(second, expected)
        self.assertEqual(together(programs), expected)
        programs[2].append(("head", 0, 0))
        self.assertNotEqual(together(programs), expected)
        self.assertEqual(second, expected)
        same = list(NARROW_REVERSE)
        made = together([same, same])
        self.assertTrue(all_different([same] + made))

    def test_more_programs_than_a_ring_has(self):
        self.assertEqual(together([]), [])
        for n in (9, 10):
            self.assertEqual(self.assert_together([SWAP, HEAD, TAIL] * 3 + [[]] * (n - 9), ["0", "100"]), 2 * n)


class Ring(Checks):
    def test_form(self):
        for n in range(1, MOST_RING + 1):
            made = ring(n)
            self.assertIs(type(made), list)
            self.assertEqual(len(made), n)
            for e in made:
                self.assert_form(e, 12)

    def test_results_and_steps(self):
        for n in range(1, MOST_RING + 1):
            made = ring(n)
            for e, following in zip(made, made[1:] + made[:1]):
                for x in INPUTS + (number(4999), "1" * 4999 + "0" * 5000):
                    result, steps = run(e, x, 100 + 40 * n)
                    self.assertEqual(result, code(following))
                    self.assertLessEqual(steps, 100 + 40 * n)

    def test_once_around(self):
        for n in range(1, MOST_RING + 1):
            made = ring(n)
            program = made[0]
            for i in range(1, n + 1):
                program = decode(run(program, "100", 500)[0])
                self.assertEqual(program, made[i % n])

    def test_run_by_the_universal_program(self):
        made = ring(3)
        tree = code(made[0])
        for i in (1, 2, 0):
            tree = run(universal(), cons(tree, "11000"), 100000)[0]
            self.assertEqual(tree, code(made[i]))

    def test_different_programs(self):
        for n in range(2, MOST_RING + 1):
            self.assertEqual(len({str(e) for e in ring(n)}), n)

    def test_larger_rings(self):
        for n in (9, 12):
            made = ring(n)
            self.assertEqual(len(made), n)
            self.assertEqual(run(made[-1], "0", 1000)[0], code(made[0]))
        self.assertEqual(ring(0), [])

    def test_the_same_each_time(self):
        first = ring(3)
        expected = [list(e) for e in first]
        second = ring(3)
        self.assertTrue(all_different([first, second] + first + second))
        first[0].clear()
        first.pop()
        self.assertEqual(second, expected)
        self.assertEqual(ring(3), expected)


if __name__ == "__main__":
    unittest.main()
