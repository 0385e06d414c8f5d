import random
import unittest

from narcissus.building import chain, choice, constant, loop
from narcissus.errors import OutOfSteps, TooLarge
from narcissus.filling import filled, filler
from narcissus.programs import code, decode, is_program, parse, width
from narcissus.running import after, run
from narcissus.trees import cons, list_of, number
from narcissus.universe import tower, universal
from samples import (
    ADD_1, END_ON_LEAF, FOREVER, HEAD, INPUTS, LOOK_AT_REGISTERS, NARROW_REVERSE, REVERSE, SAMPLES, SWAP, TAIL,
    all_different, ended, random_program, wide,
)

UNIVERSAL = universal()
LARGEST = number(99999)
LONG = 300
# Puts all 20 registers into one tree.
GATHER = [("cons", 0, 0, r) for r in range(1, 20)]
# Another tree for each register but the first one, which holds the input.
FILL = [("set", r, number(r)) for r in range(1, 20)]


def most_steps(program, steps):
    return 100 * (len(program) + 40) * (steps + 1)


class Universal(unittest.TestCase):
    def assert_runs(self, program, x, limit=LONG):
        """Hold a run of the universal program against a run of the program, and tell whether that ends."""
        expected = ended(program, x, limit)
        pair = cons(code(program), x)
        if expected is None:
            self.assertIsNone(ended(UNIVERSAL, pair, limit))
            return False
        result, steps = run(UNIVERSAL, pair, most_steps(program, expected[1]))
        self.assertEqual(result, expected[0])
        self.assertGreaterEqual(steps, expected[1])
        return True

    def test_form(self):
        self.assertTrue(is_program(UNIVERSAL))
        self.assertLessEqual(len(UNIVERSAL), 300)
        self.assertLessEqual(width(UNIVERSAL), 16)

    def test_the_same_each_time(self):
        first = universal()
        second = universal()
        self.assertEqual(first, UNIVERSAL)
        self.assertEqual(second, UNIVERSAL)
        self.assertTrue(all_different([first, second, UNIVERSAL]))
        first.clear()
        second[0] = ("set", 0, "0")
        self.assertEqual(universal(), UNIVERSAL)

    def test_samples(self):
        for program in SAMPLES + (REVERSE,):
            for x in INPUTS:
                self.assert_runs(program, x)

    def test_random_programs(self):
        chance = random.Random(1)
        ends = 0
        for _ in range(500):
            program = random_program(chance, chance.randrange(13), chance.choice([1, 2, 4, 20]))
            for x in INPUTS:
                ends += self.assert_runs(program, x)
        self.assertGreater(ends, 1000)
        self.assertLess(ends, 500 * len(INPUTS) - 500)

    def test_no_instruction(self):
        for x in INPUTS + (number(9000),):
            self.assertEqual(run(UNIVERSAL, cons("0", x), 100 * 40)[0], x)

    def test_each_instruction_with_each_register(self):
        chance = random.Random(2)
        for a in range(20):
            for _ in range(12):
                b, c = chance.randrange(20), chance.randrange(20)
                for instruction in (
                    ("set", a, number(b)), ("move", a, b), ("cons", a, b, c), ("head", a, b), ("tail", a, b),
                ):
                    self.assert_runs(FILL + [instruction] + GATHER, "1100100")

    def test_registers_begin_as_leaves(self):
        for x in INPUTS:
            self.assert_runs(GATHER, x)
        self.assert_runs(LOOK_AT_REGISTERS, "100")

    def test_jumps_on_each_register(self):
        for a in range(20):
            for tree in ("0", "100"):
                for n in range(1, 5):
                    program = [("set", a, tree), ("jump", a, n)] + [("cons", 0, 0, 0)] * 3
                    self.assert_runs(program, "11000")
                self.assertEqual(self.assert_runs([("set", a, tree), ("jump", a, 0)], "0"), tree == "0")
                back = [("set", a, tree), ("cons", 0, 0, 19), ("move", a, 19), ("jump", a, -2)]
                self.assert_runs(back, "0")

    def test_jumps_of_each_length(self):
        # Goes forward by n, adds a pair, goes back to the instruction behind the jump, and from there to the end.
        for n in list(range(2, 12)) + [50, 299, 599 - 3]:
            program = [("set", 1, "100"), ("jump", 1, n), ("jump", 1, n + 1)] + [("cons", 0, 0, 1)] * (n - 2)
            program += [("cons", 0, 1, 0), ("jump", 1, -n)]
            self.assertEqual(program[1 + n], ("cons", 0, 1, 0))
            self.assertTrue(is_program(program))
            self.assertEqual(run(program, "0", 10), ("11000", 5))
            self.assert_runs(program, "0")

    def test_jumps_to_the_first_instruction_and_to_the_end(self):
        # Counts the register 0 down and ends where the number is 0.
        program = parse("tail 0 0; jump 0 -1")
        for n in (0, 1, 2, 3, 50):
            self.assert_runs(program, number(n))
        self.assert_runs([("jump", 0, 600)] + [("set", 0, "0")] * 599, "100")
        self.assert_runs([("jump", 0, 600)] + [("set", 0, "0")] * 599, "0", 1000)
        program = [("set", 0, "11000")] * 599 + [("jump", 1, -599)]
        self.assert_runs(program, "0", 1000)

    def test_largest_programs(self):
        chance = random.Random(3)
        for _ in range(20):
            self.assert_runs(random_program(chance, 600, 20), "1100100", 1000)
        self.assert_runs([("cons", 19, 19, 18)] * 300 + [("move", 0, 19)] * 300, "100", 1000)
        self.assert_runs([("jump", 0, 1)] * 600, "100", 1000)
        self.assert_runs([("set", 19, "0")] * 600, "100", 1000)

    def test_steps_of_slow_programs(self):
        # The bound holds for each instruction alone, many times in a row, among few others.
        for instruction in (
            ("cons", 19, 19, 19), ("move", 19, 19), ("head", 19, 19), ("tail", 19, 19), ("set", 19, "0"),
            ("jump", 19, 1), ("jump", 0, 1),
        ):
            for count in (1, 2, 10):
                program = [instruction] * count
                expected, done = run(program, "100", 100)
                result, steps = run(UNIVERSAL, cons(code(program), "100"), most_steps(program, done))
                self.assertEqual(result, expected)
        for count in (1, 100, 598):
            program = [("tail", 0, 0)] + [("jump", 19, 0)] * count + [("jump", 0, -1 - count)]
            self.assert_runs(program, number(5), 5000)
        # Jumps forth and back over nearly the whole program, again and again.
        far = [("jump", 0, 598)] + [("set", 19, "0")] * 597 + [("tail", 0, 0), ("jump", 0, -599)]
        self.assertEqual(run(far, number(30), 1000)[1], 3 * 30)
        self.assert_runs(far, number(30), 1000)

    def test_what_a_program_makes_of_programs(self):
        for program in (
            chain([SWAP, NARROW_REVERSE]), choice(HEAD, TAIL, ADD_1), loop([], TAIL), constant("11000"),
            filled(SWAP, "100"), filler(),
        ):
            for x in INPUTS:
                self.assert_runs(program, x)

    def test_no_end(self):
        for program, x in ((FOREVER, "0"), (END_ON_LEAF, "100"), (loop([], ADD_1), "100")):
            with self.assertRaises(OutOfSteps):
                run(UNIVERSAL, cons(code(program), x), 500000)
        with self.assertRaises(OutOfSteps):
            run(UNIVERSAL, cons(code(END_ON_LEAF), "1100100"), 1000000)

    def test_no_step_is_too_large(self):
        # The code, the input and the registers have nearly 20,000 characters together.
        for x in (number(9000), "1" * 9000 + "0" * 9001, "110" * 4500 + "0" * 4501):
            for program in (SWAP, HEAD, TAIL, ADD_1, parse("cons 0 0 1"), parse("move 19 0; move 0 1; move 0 19")):
                size = len(code(program)) + len(x)
                self.assertLessEqual(size, 20000)
                self.assert_runs(program, x)
        half = number(4900)
        self.assert_runs(parse("move 19 0; set 0 0; cons 0 19 0"), half)
        self.assert_runs([("set", r, number(220)) for r in range(20)] + GATHER, "0")
        growing = [("set", 1, "100"), ("cons", 0, 0, 1), ("tail", 2, 2), ("jump", 1, -2)]
        self.assertIsNone(ended(UNIVERSAL, cons(code(growing), "0"), 100000))
        with self.assertRaises(OutOfSteps):
            run(UNIVERSAL, cons(code(growing), "0"), 100000)

    def test_large_programs_and_inputs(self):
        self.assertEqual(run(UNIVERSAL, cons(code(TAIL), number(90000)), 5000)[0], number(89999))
        program = [("set", 0, number(40000))]
        self.assertEqual(run(UNIVERSAL, cons(code(program), number(40000)), 5000)[0], number(40000))

    def test_too_large_step_of_the_program(self):
        program = parse("cons 0 0 0; cons 0 0 0")
        with self.assertRaises(TooLarge):
            run(UNIVERSAL, cons(code(program), number(49999)), 10000)

    def test_registers_of_any_number_of_runs(self):
        # What one run leaves behind does not matter to the next one: each run begins with clean registers.
        twice = chain([UNIVERSAL, parse("cons 0 0 1; head 0 0"), UNIVERSAL])
        inner = cons(code(HEAD), "110011000")
        outer = cons(code(constant(inner)), "0")
        self.assertEqual(run(twice, outer, 100000)[0], "100")
        self.assertEqual(after(UNIVERSAL, outer, 0)[1], 0)


class Tower(unittest.TestCase):
    def test_no_programs(self):
        for x in INPUTS + (LARGEST,):
            self.assertEqual(tower([], x), x)

    def test_some_programs(self):
        self.assertEqual(tower([[]], "100"), "10100")
        self.assertEqual(tower([SWAP], "100"), cons(code(SWAP), "100"))
        self.assertEqual(
            tower([SWAP, [], HEAD], "100"), cons(code(SWAP), cons("0", cons(code(HEAD), "100")))
        )

    def test_against_cons(self):
        chance = random.Random(4)
        for _ in range(100):
            programs = [random_program(chance, chance.randrange(9), 20) for _ in range(chance.randrange(6))]
            expected = x = chance.choice(INPUTS)
            for program in reversed(programs):
                expected = cons(code(program), expected)
            self.assertEqual(tower(programs, x), expected)

    def test_universal_program_over_a_tower(self):
        for program in (SWAP, [], constant("11000"), parse("jump 0 2; set 0 100"), ADD_1):
            for x in INPUTS:
                expected, done = run(program, x, 100)
                bound = most_steps(program, done)
                for count in range(2):
                    found = run(UNIVERSAL, tower([UNIVERSAL] * count + [program], x), bound)
                    self.assertEqual(found[0], expected)
                    bound = most_steps(UNIVERSAL, found[1])

    def test_higher_towers(self):
        self.assertEqual(run(UNIVERSAL, tower([UNIVERSAL, UNIVERSAL, []], "100"), 10 ** 8)[0], "100")
        self.assertEqual(run(UNIVERSAL, tower([UNIVERSAL, UNIVERSAL, HEAD], "11000"), 10 ** 8)[0], "100")
        with self.assertRaises(OutOfSteps):
            run(UNIVERSAL, tower([UNIVERSAL, FOREVER], "0"), 1000000)
        with self.assertRaises(OutOfSteps):
            run(UNIVERSAL, tower([UNIVERSAL, UNIVERSAL, END_ON_LEAF], "100"), 1000000)

    def test_too_large(self):
        # One pair more for each program, and its code.
        self.assertEqual(tower([[]], number(99998)), cons("0", number(99998)))
        with self.assertRaises(TooLarge):
            tower([[]], LARGEST)
        self.assertEqual(len(tower([[]] * 99999, "0")), 199999)
        self.assertEqual(tower([[]] * 99999, "0"), list_of(["0"] * 99999))
        with self.assertRaises(TooLarge):
            tower([[]] * 100000, "0")
        with self.assertRaises(TooLarge):
            tower([[]] * 99999, "100")
        size = len(code(SWAP))
        x = number((199999 - size - 1) // 2)
        self.assertEqual(len(tower([SWAP], x)), 199999)
        with self.assertRaises(TooLarge):
            tower([SWAP], cons("0", x))
        with self.assertRaises(TooLarge):
            tower([], number(99999)[:-1] + "100")

    def test_code_too_large(self):
        program = [("set", 0, number(99990))]
        self.assertEqual(decode(code(program)), program)
        self.assertEqual(tower([program], "0"), cons(code(program), "0"))
        for large in ([("set", 0, LARGEST)], [("set", 0, number(99990)), ("move", 19, 19)]):
            for programs in ([large], [[], large], [large, SWAP]):
                with self.assertRaises(TooLarge):
                    tower(programs, "0")

    def test_arguments_stay_as_they_are(self):
        programs = [list(SWAP), [], wide(20)]
        held = list(programs)
        first = tower(programs, "100")
        self.assertEqual(programs, [SWAP, [], wide(20)])
        self.assertTrue(all(part is other for part, other in zip(programs, held)))
        self.assertEqual(tower(programs, "100"), first)
        programs.pop()
        self.assertEqual(tower(programs, "100"), cons(code(SWAP), cons("0", "100")))


if __name__ == "__main__":
    unittest.main()
