import random
import unittest

import oracle
from narcissus.errors import Ended, OutOfSteps, TooLarge
from narcissus.programs import parse
from narcissus.running import after, first_state, run, step
from narcissus.trees import cons, head, items_of, list_of, number, tail
from samples import DOUBLE, FOREVER, REVERSE, random_program

IN_TAILS = "10" * 99999 + "0"
IN_HEADS = "1" * 99999 + "0" * 100000
BY_TURNS = "110" * 49999 + "100" + "0" * 49999
DEEP = (IN_TAILS, IN_HEADS, BY_TURNS)
LEAVES = ("0",) * 20

# Counts how often the tail, or the head, can be taken.
COUNT_TAILS = parse("set 19 100; jump 0 2; jump 19 4; tail 0 0; cons 1 2 1; jump 19 -4; move 0 1")
COUNT_HEADS = parse("set 19 100; jump 0 2; jump 19 4; head 0 0; cons 1 2 1; jump 19 -4; move 0 1")
COUNT_TURNS = parse(
    "set 19 100; jump 0 2; jump 19 6; head 0 0; cons 1 2 1; tail 0 0; cons 1 2 1; jump 19 -6; move 0 1"
)


def registers_with(found):
    return tuple(found.get(at, "0") for at in range(20))


def outcome(function, *arguments):
    try:
        return function(*arguments)
    except (Ended, OutOfSteps, TooLarge) as error:
        return type(error)


def run_by_steps(program, x, steps):
    """Do what run does, by first_state and step."""
    state = first_state(x)
    for done in range(steps + 1):
        if state[0] == len(program):
            return state[1][0], done
        if done < steps:
            state = step(program, state)
    raise OutOfSteps("so")


def after_by_steps(program, x, steps):
    """Do what after does, by first_state and step."""
    state = first_state(x)
    for done in range(steps):
        if state[0] == len(program):
            return state, done
        state = step(program, state)
    return state, steps


class FirstState(unittest.TestCase):
    def test_first_state(self):
        for x in ("0", "100", "11000") + DEEP:
            self.assertEqual(first_state(x), (0, (x,) + ("0",) * 19))


class Step(unittest.TestCase):
    def assert_step(self, instruction, before, changes):
        """Hold one step of an instruction with the index 1 against the registers that it changes."""
        program = [("move", 0, 0), instruction, ("move", 0, 0)]
        state = (1, registers_with(before))
        self.assertEqual(step(program, state), (2, registers_with({**before, **changes})))

    def test_set(self):
        self.assert_step(("set", 3, "100"), {3: "11000"}, {3: "100"})
        self.assert_step(("set", 0, "0"), {0: "11000"}, {0: "0"})
        self.assert_step(("set", 19, "11000"), {}, {19: "11000"})

    def test_move(self):
        self.assert_step(("move", 3, 4), {3: "100", 4: "11000"}, {3: "11000"})
        self.assert_step(("move", 4, 4), {4: "11000"}, {})
        self.assert_step(("move", 0, 19), {0: "11000"}, {0: "0"})

    def test_cons(self):
        self.assert_step(("cons", 0, 1, 2), {1: "100", 2: "11000"}, {0: "110011000"})
        self.assert_step(("cons", 1, 1, 1), {1: "100"}, {1: "1100100"})
        self.assert_step(("cons", 2, 1, 2), {1: "100", 2: "11000"}, {2: "110011000"})
        self.assert_step(("cons", 19, 18, 17), {}, {19: "100"})

    def test_head_and_tail(self):
        self.assert_step(("head", 3, 4), {4: "110011000"}, {3: "100"})
        self.assert_step(("tail", 3, 4), {4: "110011000"}, {3: "11000"})
        self.assert_step(("head", 4, 4), {4: "110011000"}, {4: "100"})
        self.assert_step(("head", 3, 4), {3: "100"}, {3: "0"})
        self.assert_step(("tail", 3, 4), {3: "100"}, {3: "0"})

    def test_jumps(self):
        for n in range(-1, 3):
            program = [("move", 0, 0), ("jump", 5, n), ("move", 0, 0)]
            full = registers_with({5: "100", 6: "11000"})
            self.assertEqual(step(program, (1, full)), (1 + n, full))
            leaf = registers_with({0: "100", 6: "11000"})
            self.assertEqual(step(program, (1, leaf)), (2, leaf))

    def test_jump_to_the_end(self):
        program = [("jump", 0, 1)]
        for x in ("0", "100"):
            state = step(program, first_state(x))
            self.assertEqual(state, (1, first_state(x)[1]))
            with self.assertRaises(Ended):
                step(program, state)

    def test_ended(self):
        with self.assertRaises(Ended):
            step([], first_state("0"))
        program = [("move", 0, 0)] * 600
        self.assertEqual(step(program, (599, LEAVES)), (600, LEAVES))
        with self.assertRaises(Ended):
            step(program, (600, LEAVES))

    def test_largest(self):
        for first, second in ((0, 99998), (99998, 0), (49999, 49999), (1, 99997)):
            registers = registers_with({3: number(first), 4: number(second)})
            state = step([("cons", 5, 3, 4)], (0, registers))
            self.assertEqual(state[0], 1)
            self.assertEqual(state[1][5], "1" + number(first) + number(second))
            self.assertEqual(len(state[1][5]), 199999)
            for a, b in ((first + 1, second), (first, second + 1)):
                with self.assertRaises(TooLarge):
                    step([("cons", 5, 3, 4)], (0, registers_with({3: number(a), 4: number(b)})))

    def test_deep_trees(self):
        for tree in DEEP:
            registers = registers_with({1: tree})
            for word, part in (("head", head(tree)), ("tail", tail(tree)), ("move", tree)):
                self.assertEqual(step([(word, 2, 1)], (0, registers)), (1, registers_with({1: tree, 2: part})))
            self.assertEqual(step([("set", 2, tree)], (0, LEAVES)), (1, registers_with({2: tree})))
            self.assertEqual(step([("jump", 1, 0)], (0, registers)), (0, registers))
            with self.assertRaises(TooLarge):
                step([("cons", 2, 1, 1)], (0, registers))
            parts = registers_with({2: head(tree), 3: tail(tree)})
            self.assertEqual(step([("cons", 1, 2, 3)], (0, parts))[1][1], tree)

    def test_arguments_stay_as_they_are(self):
        program = parse("cons 0 0 0; jump 0 -1")
        copy = list(program)
        state = (0, registers_with({0: "100"}))
        for _ in range(3):
            self.assertEqual(step(program, state), (1, registers_with({0: "1100100"})))
        self.assertEqual(program, copy)


class Run(unittest.TestCase):
    def test_empty_program(self):
        for x in ("0", "100") + DEEP:
            for steps in (0, 1, 5, 1000000):
                self.assertEqual(run([], x, steps), (x, 0))
                self.assertEqual(after([], x, steps), ((0, (x,) + LEAVES[1:]), 0))

    def test_ordinary(self):
        trees = ["100", "0", "11000", "100"]
        self.assertEqual(run(REVERSE, list_of(trees), 1000), (list_of(trees[::-1]), 2 + 4 * 5 + 2))
        self.assertEqual(run(REVERSE, "0", 1000), ("0", 4))

    def test_a_run_that_ends_with_its_very_last_step(self):
        x = list_of(["100", "0", "11000", "100"])
        result, done = run(REVERSE, x, 1000)
        self.assertEqual(run(REVERSE, x, done), (result, done))
        self.assertEqual(run(REVERSE, x, done + 1), (result, done))
        for steps in range(done):
            with self.assertRaises(OutOfSteps):
                run(REVERSE, x, steps)

    def test_0_steps(self):
        with self.assertRaises(OutOfSteps):
            run([("move", 0, 0)], "0", 0)
        self.assertEqual(run([], "100", 0), ("100", 0))
        self.assertEqual(after(REVERSE, "100", 0), (first_state("100"), 0))
        self.assertEqual(after(DOUBLE, IN_TAILS, 0), (first_state(IN_TAILS), 0))

    def test_jumps_to_the_end(self):
        self.assertEqual(run([("jump", 0, 1)], "100", 1), ("100", 1))
        self.assertEqual(run([("jump", 0, 1)], "0", 1), ("0", 1))
        self.assertEqual(run([("jump", 0, 2), ("set", 0, "11000")], "100", 1), ("100", 1))
        self.assertEqual(run([("jump", 0, 2), ("set", 0, "11000")], "0", 2), ("11000", 2))

    def test_against_the_oracle(self):
        chance = random.Random(8)
        ends = 0
        for _ in range(400):
            program = random_program(chance, chance.randrange(1, 9))
            x = chance.choice(["0", "100", "11000", "10100", "110011000"])
            states = oracle.states(program, x, 14)
            for steps in range(14):
                state = states[min(steps, len(states) - 1)]
                done = min(steps, len(states) - 1)
                self.assertEqual(after(program, x, steps), (state, done))
                if state[0] == len(program):
                    self.assertEqual(run(program, x, steps), (state[1][0], done))
                    ends += 1
                else:
                    with self.assertRaises(OutOfSteps):
                        run(program, x, steps)
            for before, behind in zip(states, states[1:]):
                self.assertEqual(step(program, before), behind)
            if states[-1][0] == len(program):
                with self.assertRaises(Ended):
                    step(program, states[-1])
        self.assertGreater(ends, 1000)

    def test_against_steps_with_large_trees(self):
        chance = random.Random(9)
        seen = {}
        for _ in range(40):
            program = parse("cons 0 0 1; set 2 100; cons 1 0 0") + random_program(chance, 7)
            x = chance.choice([number(20000), number(49999), "1" * 33000 + "0" * 33001, BY_TURNS])
            for steps in (1, 6, 30):
                expected = outcome(run_by_steps, program, x, steps)
                self.assertEqual(outcome(run, program, x, steps), expected)
                self.assertEqual(outcome(after, program, x, steps), outcome(after_by_steps, program, x, steps))
                kind = expected if isinstance(expected, type) else "ended"
                seen[kind] = seen.get(kind, 0) + 1
        self.assertEqual(set(seen), {"ended", OutOfSteps, TooLarge})

    def test_a_million_steps(self):
        with self.assertRaises(OutOfSteps):
            run(FOREVER, "0", 1000000)
        self.assertEqual(after(FOREVER, "0", 1000000), ((1, registers_with({1: "100"})), 1000000))
        self.assertEqual(after(FOREVER, "0", 999999)[1], 999999)
        self.assertEqual(after(FOREVER, "0", 1000010)[1], 1000010)

    def test_a_million_pairs(self):
        program = parse("set 1 100; cons 2 1 1; jump 1 -1")
        self.assertEqual(after(program, "0", 1000000), ((2, registers_with({1: "100", 2: "1100100"})), 1000000))


class TooLargeSteps(unittest.TestCase):
    def test_which_comes_first(self):
        # The conses are the steps 2, 4, 6, ..; the one that is step 34 would make 2 ** 18 - 1 characters.
        for steps in range(34):
            with self.assertRaises(OutOfSteps):
                run(DOUBLE, "0", steps)
            state, done = after(DOUBLE, "0", steps)
            self.assertEqual(done, steps)
            self.assertEqual(len(state[1][0]), 2 ** (steps // 2 + 1) - 1)
        for steps in (34, 35, 1000, 1000000):
            with self.assertRaises(TooLarge):
                run(DOUBLE, "0", steps)
            with self.assertRaises(TooLarge):
                after(DOUBLE, "0", steps)

    def test_exactly_at_the_limit(self):
        program = parse("cons 0 0 1")
        self.assertEqual(run(program, number(99998), 1), ("1" + number(99998) + "0", 1))
        self.assertEqual(after(program, number(99998), 1)[0][1][0], "1" + number(99998) + "0")
        for x in DEEP:
            with self.assertRaises(TooLarge):
                run(program, x, 1)
            with self.assertRaises(TooLarge):
                after(program, x, 1)
            with self.assertRaises(OutOfSteps):
                run(program, x, 0)
            self.assertEqual(after(program, x, 0), (first_state(x), 0))

    def test_a_step_too_large_that_is_not_done(self):
        program = [("jump", 0, 2), ("cons", 1, 2, 3), ("set", 2, "0")]
        self.assertEqual(run(program, IN_TAILS, 5), (IN_TAILS, 2))
        program = [("set", 1, "100"), ("jump", 1, 2), ("cons", 0, 0, 0), ("tail", 0, 0)]
        self.assertEqual(run(program, IN_TAILS, 5), (number(99998), 3))

    def test_a_tree_too_large_in_another_register(self):
        for a in range(20):
            program = [("cons", a, 0, 0)]
            with self.assertRaises(TooLarge):
                run(program, number(50000), 9)
            with self.assertRaises(TooLarge):
                after(program, number(50000), 9)
            self.assertEqual(len(after(program, number(49999), 9)[0][1][a]), 199999)

    def test_too_large_trees_of_what_was_set(self):
        program = [("set", 1, number(49999)), ("cons", 0, 1, 0)]
        self.assertEqual(len(run(program, number(49999), 2)[0]), 199999)
        with self.assertRaises(TooLarge):
            run(program, number(50000), 2)
        with self.assertRaises(OutOfSteps):
            run(program, number(50000), 1)


class DeepTrees(unittest.TestCase):
    def test_down_to_the_leaf(self):
        turns = "110" * 49999 + "0" * 50000
        for x, program, count, steps in (
            (IN_TAILS, COUNT_TAILS, 99999, 1 + 4 * 99999 + 3), (IN_HEADS, COUNT_HEADS, 99999, 1 + 4 * 99999 + 3),
            (turns, COUNT_TURNS, 99998, 1 + 6 * 49999 + 3),
        ):
            self.assertEqual(run(program, x, steps), (number(count), steps))
            with self.assertRaises(OutOfSteps):
                run(program, x, steps - 1)

    def test_up_from_the_leaf(self):
        for line, steps, tree in (
            ("set 19 100; cons 0 1 0; jump 19 -1", 2 * 99999, IN_TAILS),
            ("set 19 100; cons 0 0 1; jump 19 -1", 2 * 99999, IN_HEADS),
            ("set 19 100; cons 0 1 1; cons 0 1 0; cons 0 0 1; jump 19 -2", 3 * 49999 + 1, BY_TURNS),
        ):
            program = parse(line)
            state, done = after(program, "0", steps)
            self.assertEqual((state[1][0], done), (tree, steps))
            with self.assertRaises(OutOfSteps):
                run(program, "0", steps + 1)
            with self.assertRaises(TooLarge):
                run(program, "0", steps + 2)

    def test_all_registers(self):
        program = [("move", a, 0) for a in range(1, 20)]
        for tree in DEEP:
            self.assertEqual(after(program, tree, 100), ((19, (tree,) * 20), 19))

    def test_parts(self):
        for tree in DEEP:
            self.assertEqual(run([("head", 0, 0)], tree, 1), (head(tree), 1))
            self.assertEqual(run([("tail", 0, 0)], tree, 1), (tail(tree), 1))
            self.assertEqual(run(parse("head 1 0; tail 2 0; cons 0 1 2"), tree, 3), (tree, 3))
            self.assertEqual(run([("set", 0, tree)], "0", 1), (tree, 1))
            self.assertEqual(run(parse("jump 0 2; set 0 100; tail 1 0"), tree, 2), (tree, 2))

    def test_mirror_image(self):
        items = ["100", "0"] * 20000
        self.assertEqual(run(REVERSE, list_of(items), 1000000)[0], list_of(items[::-1]))
        self.assertEqual(items_of(list_of(items)), items)

    def test_cons_and_step_by_step(self):
        for tree in DEEP:
            program = parse("head 1 0; tail 2 0; set 3 0; cons 0 1 3; jump 0 -4")
            self.assertEqual(after(program, tree, 12), after_by_steps(program, tree, 12))
            self.assertEqual(cons(head(tree), tail(tree)), tree)


class NoEffects(unittest.TestCase):
    def test_arguments_stay_as_they_are(self):
        program = list(REVERSE)
        run(program, "100", 100)
        after(program, "100", 100)
        self.assertEqual(program, REVERSE)

    def test_answers_do_not_depend_on_earlier_ones(self):
        calls = [(REVERSE, "100"), (DOUBLE, "0"), (FOREVER, "100"), (COUNT_TAILS, "11000"), ([], IN_TAILS)]
        first = [[outcome(run, *call, 50), outcome(after, *call, 20)] for call in calls]
        for call, found in list(zip(calls, first))[::-1]:
            self.assertEqual([outcome(run, *call, 50), outcome(after, *call, 20)], found)

    def test_programs_may_be_changed_between_calls(self):
        program = parse("set 1 100; move 0 1")
        self.assertEqual(run(program, "0", 2), ("100", 2))
        program[0] = ("set", 1, "11000")
        self.assertEqual(run(program, "0", 2), ("11000", 2))
        program.pop()
        self.assertEqual(run(program, "0", 2), ("0", 1))


if __name__ == "__main__":
    unittest.main()
