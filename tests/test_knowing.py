import itertools
import unittest

from checks import Checks, some_programs
from narcissus.building import chain, choice, constant, loop
from narcissus.errors import OutOfSteps
from narcissus.filling import filled, filler
from narcissus.knowing import bearer, fixed_point, knowing, myself
from narcissus.programs import code, decode, parse, width
from narcissus.running import run
from narcissus.trees import cons, head, items_of, number, tail
from narcissus.universe import universal
from samples import (
    END_ON_LEAF, END_ON_PAIR, FOREVER, HEAD, INPUTS, LOOK_AT_REGISTERS, SAMPLES, SWAP, TAIL, all_different, ended,
    wide, with_code_size,
)

LARGEST = number(99999)
LONG = 300
# As long as the given programs and the input have no more characters together, no step is too large.
TOGETHER = 10000


class Knowing(Checks):
    def assert_knows(self, q, e, x):
        """Hold a run of e against q, and tell whether it ends."""
        expected = ended(q, cons(code(e), x), LONG)
        if expected is None:
            self.assertIsNone(ended(e, x, LONG))
            return False
        result, steps = run(e, x, expected[1] + 60)
        self.assertEqual(result, expected[0])
        self.assertGreaterEqual(steps, expected[1])
        return True

    def test_form(self):
        for q in some_programs(1, 200):
            self.assert_form(knowing(q), max(8, width(q)))

    def test_results_and_steps(self):
        ends = 0
        programs = some_programs(2, 300)
        for q in programs:
            e = knowing(q)
            for x in INPUTS:
                ends += self.assert_knows(q, e, x)
        self.assertGreater(ends, 1000)
        self.assertLess(ends, len(programs) * len(INPUTS) - 200)

    def test_its_own_code(self):
        e = knowing(HEAD)
        f = knowing(TAIL)
        g = knowing([])
        for x in INPUTS:
            self.assertEqual(run(e, x, 61)[0], code(e))
            self.assertEqual(run(f, x, 61)[0], x)
            self.assertEqual(run(g, x, 60)[0], cons(code(g), x))

    def test_what_it_may_do_with_its_code(self):
        # Its number of instructions in a pair with the input, and its own first instruction.
        count = parse(
            "head 1 0; tail 2 0; set 0 0; set 5 100; jump 1 2; jump 5 4; cons 0 3 0; tail 1 1; jump 5 -4; cons 0 0 2"
        )
        e = knowing(count)
        self.assertEqual(run(e, "11000", 10000)[0], cons(number(len(e)), "11000"))
        first = knowing(parse("head 0 0; head 0 0"))
        self.assertEqual(run(first, "0", 100)[0], items_of(code(first))[0])

    def test_recursion(self):
        # It runs itself on the tail, until that is the leaf, and adds 1 to each result.
        step_down = parse("tail 1 0; tail 1 1; head 0 0; cons 0 0 1")
        add_1 = parse("cons 0 1 0")
        length = knowing(choice(TAIL, chain([step_down, universal(), add_1]), constant("0")))
        for x in ("0", "100", "11000", "110011000"):
            self.assertEqual(run(length, x, 1000000)[0], number(len(items_of(x))))

    def test_registers_are_clean(self):
        e = knowing(LOOK_AT_REGISTERS)
        for x in INPUTS:
            self.assertEqual(run(e, x, 100)[0], run(LOOK_AT_REGISTERS, cons(code(e), x), 8)[0])
        for r in range(1, 16):
            e = knowing([("move", 0, r)])
            self.assertEqual(run(e, "11000", 61)[0], "0")

    def test_no_end(self):
        for q in (FOREVER, parse("tail 0 0; jump 0 0"), END_ON_LEAF, loop([], constant("100"))):
            with self.assertRaises(OutOfSteps):
                run(knowing(q), "100", 1000000)
        e = knowing(parse("tail 0 0; jump 0 0"))
        self.assertEqual(run(e, "0", 62)[0], "0")

    def test_different_programs_for_different_ones(self):
        programs = some_programs(3, 300) + [[("move", a, b)] for a in range(5) for b in range(5)]
        programs += [[("move", 0, 0)] * many for many in range(20)]
        # What knowing itself may put around a program does not make two of them equal.
        programs += [knowing(q)[len(knowing([])) - many:] for q in ([], SWAP) for many in range(9)]
        texts = {}
        for q in programs:
            if width(q) <= 16:
                texts.setdefault(str(knowing(q)), []).append(q)
        for found in texts.values():
            self.assertTrue(all(q == found[0] for q in found))

    def test_the_same_for_the_same(self):
        for q in SAMPLES:
            self.assertEqual(knowing(list(q)), knowing(list(q)))

    def test_too_wide(self):
        self.assert_too_wide(knowing)
        e = knowing(wide(16))
        self.assertEqual(run(e, "100", 61)[0], cons(code(e), "100"))

    def test_sizes(self):
        self.assert_sizes(knowing, 500, 20000)
        self.assert_too_large(knowing)

    def test_no_step_is_too_large(self):
        for q_size, x_size in ((9999, 1), (1, 9999), (5001, 4999), (31, 9969)):
            self.assertEqual(q_size + x_size, TOGETHER)
            q = with_code_size(1, q_size) if q_size > 1 else []
            x = number(x_size // 2)
            self.assert_knows(q, knowing(q), x)
            self.assert_knows(q, knowing(q), "1" * (x_size // 2) + "0" * (x_size // 2 + 1))

    def test_no_effects(self):
        self.assert_no_effects(knowing)


class Myself(Checks):
    def test_form(self):
        self.assert_form(myself(), 8)

    def test_runs(self):
        program = myself()
        for x in INPUTS + (number(4999), "1" * 4999 + "0" * 5000):
            result, steps = run(program, x, 60)
            self.assertEqual(result, code(program))
            self.assertLessEqual(steps, 60)
        self.assertEqual(decode(run(program, "0", 60)[0]), program)

    def test_largest_input(self):
        self.assertEqual(run(myself(), LARGEST, 60)[0], code(myself()))

    def test_run_by_the_universal_program(self):
        own = code(myself())
        self.assertEqual(run(universal(), cons(own, "100"), 100000)[0], own)
        # The code that it returns is run again, and returns itself again.
        again = chain([parse("cons 0 0 1"), universal()])
        self.assertEqual(run(chain([myself(), again, again]), "100", 100000)[0], own)

    def test_the_same_each_time(self):
        first = myself()
        expected = list(first)
        second = myself()
        self.assertTrue(all_different([first, second]))
        first.clear()
        self.assertEqual(second, expected)
        self.assertEqual(myself(), expected)


class Bearer(Checks):
    def test_form(self):
        for p in some_programs(4, 200):
            self.assert_form(bearer(p), max(8, width(p) + 1))

    def test_results_and_steps(self):
        ends = 0
        programs = some_programs(5, 300)
        for p in programs:
            made = bearer(p)
            for x in INPUTS:
                expected = ended(p, x, LONG)
                if expected is None:
                    self.assertIsNone(ended(made, x, LONG))
                else:
                    ends += 1
                    result, steps = run(made, x, expected[1] + 80)
                    self.assertEqual(result, cons(code(made), expected[0]))
                    self.assertGreaterEqual(steps, expected[1])
        self.assertGreater(ends, 1000)
        self.assertLess(ends, len(programs) * len(INPUTS) - 200)

    def test_each_width(self):
        for count in range(1, 17):
            made = bearer(wide(count) + [("set", r, "100") for r in range(1, count)])
            self.assertEqual(run(made, "11000", 200)[0], cons(code(made), "11000"))
            for r in range(1, count):
                made = bearer([("move", 0, r), ("move", count - 1, 0)])
                self.assertEqual(run(made, "11000", 200)[0], cons(code(made), "0"))

    def test_no_end(self):
        for p in (FOREVER, END_ON_LEAF):
            with self.assertRaises(OutOfSteps):
                run(bearer(p), "100", 1000000)
        with self.assertRaises(OutOfSteps):
            run(bearer(END_ON_PAIR), "0", 1000000)
        made = bearer(END_ON_LEAF)
        self.assertEqual(run(made, "0", 81)[0], cons(code(made), "0"))

    def test_bearers_of_bearers(self):
        inner = bearer(SWAP)
        outer = bearer(inner)
        result = run(outer, "110000", 200)[0]
        self.assertEqual(head(result), code(outer))
        self.assertEqual(tail(result), cons(code(inner), run(SWAP, "110000", 3)[0]))

    def test_too_wide(self):
        self.assert_too_wide(bearer)

    def test_sizes(self):
        self.assert_sizes(bearer, 400, 20000)
        self.assert_too_large(bearer)

    def test_no_step_is_too_large(self):
        for p in ([], [("set", 0, number(2500))]):
            made = bearer(p)
            x = number((TOGETHER - len(code(p))) // 2)
            result = run(p, x, 10)[0]
            self.assertEqual(run(made, x, 81)[0], cons(code(made), result))
        # The program may return a tree of up to 100,000 characters.
        p = [("set", 15, number(1800))] + [("cons", 0, 0, 0)] * 4
        x = number(3100)
        self.assertLessEqual(len(code(p)) + len(x), TOGETHER)
        result = run(p, x, 20)[0]
        self.assertEqual(len(result), 16 * len(x) + 15)
        self.assertGreater(len(result), 99000)
        self.assertEqual(run(bearer(p), x, 100)[0], cons(code(bearer(p)), result))

    def test_no_effects(self):
        self.assert_no_effects(bearer)


class FixedPoint(Checks):
    def assert_agrees(self, t, p, inputs, limit=LONG):
        """Hold the fixed point of t, which returns the code of p there, against p."""
        e = fixed_point(t)
        made, k = run(t, code(e), 1000000)
        self.assertEqual(decode(made), p)
        for x in inputs:
            expected = ended(p, x, limit)
            if expected is None:
                self.assertIsNone(ended(e, x, limit))
            else:
                most = k + 100 * (len(p) + 40) * (expected[1] + 1) + 200
                result, steps = run(e, x, most)
                self.assertEqual(result, expected[0])
                self.assertGreaterEqual(steps, k + expected[1])

    def test_form(self):
        for t in some_programs(6, 100):
            self.assert_form(fixed_point(t), 17)

    def test_constants(self):
        for p in some_programs(7, 60):
            self.assert_agrees(constant(code(p)), p, INPUTS)

    def test_of_what_builds_programs(self):
        first = ("set", 0, "11000")
        t = [("set", 1, items_of(code([first]))[0]), ("cons", 0, 1, 0)]
        e = fixed_point(t)
        self.assertEqual(decode(run(t, code(e), 10)[0]), [first] + e)
        # So e does on each x what it does on 11000, for which it has to do that on 11000 before.
        for x in ("0", "11000"):
            self.assertIsNone(ended(e, x, 100000))

    def test_of_what_fills_programs(self):
        # p returns the code of e and x, and then only the code of e.
        t = chain([[("set", 1, code([])), ("cons", 0, 1, 0)], filler()])
        e = fixed_point(t)
        self.assert_agrees(t, filled([], code(e)), INPUTS)
        for x in INPUTS:
            self.assertEqual(run(e, x, 100000)[0], cons(code(e), x))
        t = chain([[("set", 1, code(HEAD)), ("cons", 0, 1, 0)], filler()])
        e = fixed_point(t)
        self.assert_agrees(t, filled(HEAD, code(e)), INPUTS)
        self.assertEqual(run(e, "100", 100000)[0], code(e))

    def test_of_the_identity(self):
        # e and the program whose code e has agree: no result at all, since it runs itself.
        e = fixed_point([])
        for x in INPUTS:
            self.assertIsNone(ended(e, x, 100000))

    def test_no_end(self):
        for t in (FOREVER, END_ON_LEAF, parse("tail 0 0; head 0 0; jump 0 0")):
            with self.assertRaises(OutOfSteps):
                run(fixed_point(t), "0", 1000000)
        for p in (FOREVER, END_ON_LEAF):
            with self.assertRaises(OutOfSteps):
                run(fixed_point(constant(code(p))), "100", 1000000)

    def test_registers_are_clean(self):
        p = LOOK_AT_REGISTERS
        # t finds clean registers, and leaves none for the universal program to find.
        check = parse("set 1 0") + [("move", 0, r) for r in range(1, 16)]
        e = fixed_point(check)
        self.assertEqual(ended(e, "11000", 1000)[0], "11000")
        dirty = [("set", r, "1100100") for r in range(16)] + constant(code(p))
        self.assert_agrees(dirty, p, INPUTS)
        for r in range(1, 16):
            t = [("move", 0, r)]
            self.assert_agrees(t, [], ("0", "11000"))

    def test_each_width(self):
        for count in range(1, 17):
            t = constant(code(SWAP)) + [("move", count - 1, 0)]
            self.assertLessEqual(width(fixed_point(t)), 17)
            self.assert_agrees(t, SWAP, INPUTS)

    def test_wide_programs_are_made(self):
        p = [("set", r, "100") for r in range(1, 20)] + [("cons", 0, 0, r) for r in range(1, 20)]
        self.assert_agrees(constant(code(p)), p, INPUTS)

    def test_slow_program(self):
        t = [("set", 1, "100"), ("set", 2, number(1000)), ("tail", 2, 2), ("jump", 2, -1)] + constant(code(HEAD))
        self.assert_agrees(t, HEAD, INPUTS)
        self.assert_agrees(constant(code(loop([], TAIL))), loop([], TAIL), [number(20)], 1000)

    def test_too_wide(self):
        self.assert_too_wide(fixed_point)

    def test_sizes(self):
        self.assert_sizes(fixed_point, 150, 20000)
        self.assert_too_large(fixed_point)

    def test_no_step_is_too_large(self):
        p = parse("cons 0 0 0; set 19 11000")
        t = constant(code(p)) + [("set", 1, number(2400))]
        x = number(2400)
        self.assertLessEqual(len(code(t)) + len(x), TOGETHER)
        self.assert_agrees(t, p, [x, "1" * 2400 + "0" * 2401])
        self.assert_agrees(constant(code([])), [], [number(4900)])

    def test_no_effects(self):
        self.assert_no_effects(fixed_point)


class All(Checks):
    def test_different_functions_give_different_programs(self):
        found = [str(function(SWAP)) for function in (knowing, bearer, fixed_point)] + [str(myself())]
        for first, second in itertools.combinations(found, 2):
            self.assertNotEqual(first, second)

    def test_answers_do_not_depend_on_earlier_ones(self):
        calls = [(knowing, SWAP), (bearer, TAIL), (fixed_point, constant(code(HEAD))), (knowing, []), (bearer, SWAP)]
        found = [function(list(program)) for function, program in calls]
        again = [function(list(program)) for function, program in reversed(calls)]
        self.assertEqual(found, again[::-1])


if __name__ == "__main__":
    unittest.main()
