import itertools
import random
import unittest

from checks import Checks, some_programs
from narcissus.building import chain, constant, loop
from narcissus.defeats import defeat, liar, says_yes
from narcissus.errors import OutOfSteps, TooLarge, TooWide
from narcissus.knowing import bearer, fixed_point, knowing, myself
from narcissus.programs import code, is_program, parse, width
from narcissus.running import after, run
from narcissus.trees import cons, number
from narcissus.universe import universal
from samples import (
    ADD_1, END_ON_LEAF, END_ON_PAIR, FOREVER, HEAD, INPUTS, LOOK_AT_REGISTERS, NARROW_REVERSE, SAMPLES, SWAP,
    TAIL, all_different, ended, random_program, wide, with_code_size,
)

LONG = 300
LARGEST = number(99999)
YES = constant("100")
NO = constant("0")
# Says yes of the programs whose number of instructions is odd.
ODD = parse(
    "set 3 100; jump 0 2; jump 3 7; tail 0 0; jump 1 3; set 1 100; jump 3 -5; set 1 0; jump 3 -7; move 0 1"
)
# Says yes of the programs whose last instruction is not "set".
LAST = chain([NARROW_REVERSE, parse("head 0 0; head 0 0")])
DECIDERS = (
    YES, NO, [], HEAD, TAIL, FOREVER, END_ON_LEAF, END_ON_PAIR, LOOK_AT_REGISTERS, ODD,
    parse("head 0 0; head 0 0"), parse("tail 0 0; jump 0 -1"), parse("move 0 15"), parse("move 0 1"),
)


class SaysYes(unittest.TestCase):
    def test_against_runs(self):
        chance = random.Random(1)
        found = {True: 0, False: 0, None: 0}
        programs = some_programs(1, 60)
        for decider in DECIDERS + tuple(random_program(chance, 6, 4) for _ in range(100)):
            for program in chance.sample(programs, 15):
                expected = ended(decider, code(program), LONG)
                if expected is None:
                    found[None] += 1
                    with self.assertRaises((OutOfSteps, TooLarge)):
                        says_yes(decider, program, LONG)
                    continue
                answer, steps = says_yes(decider, program, LONG)
                self.assertIs(answer, expected[0] != "0")
                self.assertEqual(steps, expected[1])
                found[answer] += 1
        self.assertGreater(min(found.values()), 50)

    def test_answers(self):
        for count in range(8):
            program = [("move", 0, 0)] * count
            self.assertIs(says_yes(ODD, program, 1000)[0], count % 2 == 1)
            self.assertEqual(says_yes(YES, program, 1), (True, 1))
            self.assertEqual(says_yes(NO, program, 1), (False, 1))
            self.assertEqual(says_yes([], program, 0), (count > 0, 0))

    def test_out_of_steps(self):
        for decider, least in ((YES, 1), (HEAD, 1), (SWAP, 3), (ADD_1, 5)):
            for steps in (least, least + 1, 1000000):
                self.assertEqual(says_yes(decider, SWAP, steps), (True, least))
            for steps in range(least):
                with self.assertRaises(OutOfSteps):
                    says_yes(decider, SWAP, steps)
        with self.assertRaises(OutOfSteps):
            says_yes(FOREVER, SWAP, 1000000)

    def test_too_large(self):
        large = [("set", 0, number(99990)), ("move", 19, 19)]
        for decider in ([], YES, FOREVER):
            for steps in (0, 1, 10):
                with self.assertRaises(TooLarge):
                    says_yes(decider, large, steps)
        program = [("set", 0, number(49990))]
        double = parse("cons 0 0 0; cons 0 0 0")
        self.assertEqual(says_yes(double[:1], program, 1), (True, 1))
        with self.assertRaises(OutOfSteps):
            says_yes(double, program, 1)
        with self.assertRaises(TooLarge):
            says_yes(double, program, 2)

    def test_any_width(self):
        for r in range(20):
            program = [("set", r, "100"), ("move", 0, r)]
            self.assertEqual(says_yes(program, program, 2), (True, 2))
        self.assertEqual(says_yes([("move", 19, 0), ("head", 0, 19)], wide(20), 5), (True, 2))

    def test_arguments_stay_as_they_are(self):
        decider, program = list(TAIL), list(SWAP)
        self.assertEqual(says_yes(decider, program, 1), says_yes(decider, program, 1))
        self.assertEqual((decider, program), (TAIL, SWAP))


class Defeat(Checks):
    def assert_defeats(self, decider, yes, no, inputs):
        """Hold a program that defeats a decider against the other two, and return what the decider says."""
        e = defeat(decider, yes, no)
        said = ended(decider, code(e), LONG)
        if said is None:
            for x in inputs:
                self.assertIsNone(ended(e, x, LONG))
            return None
        answer, k = says_yes(decider, e, LONG)
        self.assertEqual(k, said[1])
        for x in inputs:
            expected = ended(no if answer else yes, x, LONG)
            if expected is None:
                self.assertIsNone(ended(e, x, LONG))
            else:
                result, steps = run(e, x, k + expected[1] + 120)
                self.assertEqual(result, expected[0])
                self.assertGreaterEqual(steps, k + expected[1])
        return answer

    def test_form(self):
        chance = random.Random(2)
        programs = some_programs(2, 100)
        for _ in range(200):
            given = [chance.choice(programs) for _ in range(3)]
            self.assert_form(defeat(*given), max(8, 2 + max(width(program) for program in given)))

    def test_samples(self):
        said = []
        for decider in DECIDERS:
            for yes, no in itertools.permutations((SWAP, HEAD, END_ON_LEAF, FOREVER, []), 2):
                said.append(self.assert_defeats(decider, yes, no, INPUTS[:4]))
        self.assertEqual({True, False, None}, set(said))

    def test_random_programs(self):
        chance = random.Random(3)
        programs = some_programs(3, 150)
        said = []
        for _ in range(400):
            decider = random_program(chance, chance.randrange(9), chance.choice([2, 3, 4, 16]))
            yes, no = chance.choice(programs), chance.choice(programs)
            said.append(self.assert_defeats(decider, yes, no, INPUTS[:4]))
        for answer in (True, False, None):
            self.assertGreater(said.count(answer), 15)

    def test_what_it_does(self):
        for x in INPUTS:
            self.assertEqual(run(defeat(YES, SWAP, HEAD), x, 122), run(defeat(YES, [], HEAD), x, 122))
            self.assertEqual(run(defeat(YES, SWAP, HEAD), x, 122)[0], run(HEAD, x, 1)[0])
            self.assertEqual(run(defeat(NO, SWAP, HEAD), x, 124)[0], run(SWAP, x, 3)[0])
            self.assertEqual(run(defeat([], SWAP, constant("11000")), x, 121)[0], "11000")

    def test_deciders_that_look_at_the_code(self):
        # As many instructions more change what is said, and so with which program it agrees.
        said = []
        for count in range(6):
            yes = [("move", 0, 0)] * count + constant("11000")
            e = defeat(ODD, yes, NO)
            said.append(says_yes(ODD, e, 10000)[0])
            self.assertEqual(said[-1], len(e) % 2 == 1)
            self.assertEqual(run(e, "100", 10000)[0], "0" if said[-1] else "11000")
        self.assertEqual({True, False}, set(said))
        for no in (HEAD, [("jump", 0, 0)], [("set", 0, "0")], SWAP):
            for yes in (TAIL, []):
                e = defeat(LAST, yes, no)
                answer, k = says_yes(LAST, e, 100000)
                for x in ("0", "100"):
                    expected = ended(no if answer else yes, x, LONG)
                    found = ended(e, x, k + LONG)
                    self.assertEqual(found and found[0], expected and expected[0])

    def test_no_program_decides_what_is_returned(self):
        # "Returns the leaf on the leaf": whatever a decider says of its program, it is not so.
        property_of = {True: constant("0"), False: constant("100")}
        for decider in DECIDERS:
            e = defeat(decider, property_of[True], property_of[False])
            said = ended(decider, code(e), 10000)
            if said is not None:
                self.assertNotEqual(said[0] != "0", run(e, "0", said[1] + 121)[0] == "0")

    def test_no_end(self):
        # The universal program as a part of a decider: it runs its program to see what that does.
        sees = chain([parse("cons 0 0 1"), universal()])
        for decider in (FOREVER, END_ON_LEAF, sees):
            for yes, no in ((YES, NO), (NO, NO), ([], [])):
                with self.assertRaises((OutOfSteps, TooLarge)) as caught:
                    run(defeat(decider, yes, no), "0", 300000)
                if decider != sees:
                    self.assertIs(type(caught.exception), OutOfSteps)
        for decider, yes, no in ((YES, [], FOREVER), (NO, FOREVER, []), (YES, NO, END_ON_LEAF)):
            with self.assertRaises(OutOfSteps):
                run(defeat(decider, yes, no), "100", 1000000)
        self.assertEqual(run(defeat(YES, NO, END_ON_LEAF), "0", 122)[0], "0")

    def test_registers_are_clean(self):
        for answer in ("0", "100"):
            dirty = [("set", r, "1100100") for r in range(1, 16)] + constant(answer)
            for r in range(1, 16):
                for other in ([], wide(16)):
                    given = [[("move", 0, r)], other] if answer == "0" else [other, [("move", 0, r)]]
                    self.assertEqual(run(defeat(dirty, *given), "11000", 200)[0], "0")
            self.assert_defeats(dirty, LOOK_AT_REGISTERS, LOOK_AT_REGISTERS, INPUTS)
        # The decider finds clean registers, too.
        for r in range(1, 16):
            self.assertEqual(run(defeat([("move", 0, r)], SWAP, HEAD), "110000", 200)[0], run(SWAP, "110000", 3)[0])
        check = [("set", 0, "0")] + [("cons", 0, 0, r) for r in range(1, 16)]
        e = defeat(check + HEAD * 15, [], NO)
        self.assertEqual(run(e, "11000", 200)[0], "11000")

    def test_each_width(self):
        for count in range(1, 17):
            for place in range(3):
                given = [list(NO), list(SWAP), list(HEAD)]
                given[place] = wide(count) + [("set", r, "100") for r in range(1, count)] + given[place]
                e = defeat(*given)
                self.assertLessEqual(width(e), max(8, max(4, count) + 2))
                self.assertIs(self.assert_defeats(*given, INPUTS), False)
                given[0] = given[0][:-1] + YES
                self.assertIs(self.assert_defeats(*given, INPUTS), True)

    def test_too_wide(self):
        for place in range(3):
            def with_one(program):
                given = [[], [], []]
                given[place] = program
                return defeat(*given)

            self.assert_too_wide(with_one)
            for large in ([("move", 0, 0)] * 600, [("set", 0, LARGEST)]):
                given = [large, large, large]
                given[place] = wide(17)
                with self.assertRaises(TooWide):
                    defeat(*given)

    def test_sizes(self):
        for place in range(3):
            def with_one(program):
                given = [[], [], []]
                given[place] = program
                return defeat(*given)

            self.assert_sizes(with_one, 400, 19990)
            self.assert_too_large(with_one)
        for counts in ((134, 133, 133), (0, 200, 200), (200, 200, 0), (398, 1, 1)):
            e = defeat(*[[("move", 0, 0)] * count for count in counts])
            self.assert_form(e, 8)
            wide_ones = [wide(16) * count for count in counts]
            if sum(len(code(program)) for program in wide_ones) <= 20000:
                self.assert_form(defeat(*wide_ones), 18)
        for at in range(3):
            given = [with_code_size(130, 6661), with_code_size(130, 6661), with_code_size(130, 6661)]
            given[at] = given[at] + wide(16)
            self.assertLessEqual(sum(len(code(program)) for program in given), 20100)
            self.assert_form(defeat(*given), 18)
        self.assert_form(defeat(wide(16), wide(16), wide(16) + [("move", 0, 0)] * 397), 18)

    def test_no_step_is_too_large(self):
        for decider in (YES, NO):
            for sizes in ((9001, 1), (1, 9001), (4501, 4501), (1, 1)):
                yes, no = [with_code_size(1, size) if size > 1 else [] for size in sizes]
                left = 10000 - len(code(decider)) - sum(sizes)
                for x in (number((left - 1) // 2), "1" * ((left - 1) // 2) + "0" * ((left + 1) // 2)):
                    self.assertLessEqual(len(x) + 10000 - left, 10000)
                    self.assertIs(self.assert_defeats(decider, yes, no, [x]), decider == YES)
        decider = with_code_size(1, 9001)
        self.assertIs(self.assert_defeats(decider, [], NO, [number(480)]), True)

    def test_no_effects(self):
        for place in range(3):
            def with_one(program):
                given = [[], [], []]
                given[place] = program
                return defeat(*given)

            self.assert_no_effects(with_one)
        given = [list(TAIL), list(SWAP), list(HEAD)]
        e = defeat(*given)
        self.assertEqual(given, [TAIL, SWAP, HEAD])
        self.assertTrue(all_different(given + [e, defeat(*given)]))
        same = list(SWAP)
        self.assertEqual(defeat(same, same, same), defeat(list(SWAP), list(SWAP), list(SWAP)))

    def test_order_of_arguments(self):
        found = [str(defeat(*given)) for given in itertools.permutations((TAIL, SWAP, HEAD))]
        self.assertEqual(len(set(found)), 6)


class Liar(Checks):
    def assert_lies(self, h, inputs):
        """Hold a liar against the program about which it lies, and return what that says for each input."""
        e = liar(h)
        said = []
        for x in inputs:
            expected = ended(h, cons(code(e), x), LONG)
            if expected is None or expected[0] != "0":
                self.assertIsNone(ended(e, x, LONG))
                said.append(expected and False)
            else:
                result, steps = run(e, x, expected[1] + 60)
                self.assertEqual(result, "0")
                self.assertGreaterEqual(steps, expected[1])
                said.append(True)
        return said

    def test_form(self):
        for h in some_programs(4, 200):
            self.assert_form(liar(h), max(8, width(h)))

    def test_results_and_steps(self):
        said = []
        for h in some_programs(5, 400) + list(DECIDERS):
            said += self.assert_lies(h, INPUTS)
        for answer in (True, False, None):
            self.assertGreater(said.count(answer), 100)

    def test_what_it_does(self):
        for x in INPUTS:
            self.assertEqual(run(liar(NO), x, 61)[0], "0")
        e = liar(TAIL)
        self.assertEqual(run(e, "0", 61)[0], "0")
        for x in INPUTS[1:]:
            with self.assertRaises(OutOfSteps):
                run(e, x, 100000)
        # Ends on the inputs whose head is a leaf.
        e = liar(parse("tail 0 0; head 0 0"))
        for x in INPUTS:
            found = ended(e, x, 62)
            self.assertEqual(found is not None, x[:2] in ("0", "10"))

    def test_no_end(self):
        for h in (YES, [], HEAD, FOREVER, END_ON_LEAF, loop([], YES)):
            with self.assertRaises(OutOfSteps):
                run(liar(h), "0", 1000000)
        for h in (TAIL, parse("tail 0 0; cons 0 0 0; head 0 0")):
            with self.assertRaises(OutOfSteps):
                run(liar(h), "100", 1000000)

    def test_it_stays_where_it_does_not_end(self):
        # The program has said that it ends, so that it never does: its state comes back.
        e = liar(YES)
        state, done = after(e, "0", 1000)
        self.assertEqual(done, 1000)
        self.assertLess(state[0], len(e))

    def test_about_ending(self):
        # A program that says of each program whether it ends within some steps is wrong about its liar.
        sees = chain([universal(), NO])
        e = liar(sees)
        with self.assertRaises((OutOfSteps, TooLarge)):
            run(e, "0", 300000)

    def test_registers_are_clean(self):
        for r in range(1, 16):
            self.assertEqual(run(liar([("move", 0, r)]), "11000", 61), run(liar([("move", 0, r)]), "0", 61))
            self.assertEqual(run(liar([("move", 0, r)]), "11000", 61)[0], "0")
        check = [("set", 0, "0")] + [("cons", 0, 0, r) for r in range(1, 16)]
        self.assertEqual(run(liar(check + HEAD * 15), "11000", 100)[0], "0")

    def test_too_wide(self):
        self.assert_too_wide(liar)
        self.assertEqual(run(liar(wide(16) + NO), "100", 100)[0], "0")

    def test_sizes(self):
        self.assert_sizes(liar, 400, 20000)
        self.assert_too_large(liar)

    def test_no_step_is_too_large(self):
        for size in (9999, 5001, 31):
            h = with_code_size(1, size) + NO
            x = number((10000 - len(code(h))) // 2) if len(code(h)) < 10000 else "0"
            self.assertEqual(self.assert_lies(h, [x]), [True])
        self.assertEqual(self.assert_lies(TAIL, [number(4980)]), [False])
        self.assertEqual(self.assert_lies([("set", 0, "0")], [number(4990)]), [True])

    def test_no_effects(self):
        self.assert_no_effects(liar)


class All(Checks):
    def test_different_functions_give_different_programs(self):
        found = [str(function(SWAP)) for function in (knowing, bearer, fixed_point, liar)] + [str(myself())]
        found.append(str(defeat(SWAP, SWAP, SWAP)))
        self.assertEqual(len(set(found)), len(found))

    def test_answers_do_not_depend_on_earlier_ones(self):
        calls = [(liar, [SWAP]), (defeat, [TAIL, SWAP, HEAD]), (liar, [[]]), (defeat, [[], [], []]), (liar, [TAIL])]
        found = [function(*[list(part) for part in given]) for function, given in calls]
        again = [function(*[list(part) for part in given]) for function, given in reversed(calls)]
        self.assertEqual(found, again[::-1])

    def test_all_results_are_programs(self):
        for program in SAMPLES:
            self.assertTrue(is_program(liar(program)))
            self.assertTrue(is_program(defeat(program, program, program)))


if __name__ == "__main__":
    unittest.main()
