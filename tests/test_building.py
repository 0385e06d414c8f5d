import itertools
import random
import unittest

from narcissus.building import both, chain, choice, constant, loop
from narcissus.errors import TooLarge, TooWide
from narcissus.programs import is_program, parse, width
from narcissus.running import after, run
from narcissus.trees import cons, list_of, number, tail
from samples import (
    ADD_1, END_ON_LEAF, END_ON_PAIR, FOREVER, HEAD, INPUTS, LOOK_AT_REGISTERS, NARROW_REVERSE, SAMPLES, SWAP, TAIL,
    all_different, ended, random_program, wide,
)

# Runs of parts that have not ended by then are taken as runs that never end.
LONG = 300
LARGEST = number(99999)


def cleaning_of(program):
    return [("set", r, "0") for r in range(1, width(program))]


def expected_both(p, q):
    w = max(width(p), width(q))
    return (
        [("move", w, 0)] + p + [("move", w + 1, 0), ("move", 0, w)] + cleaning_of(q) + q + [("cons", 0, w + 1, 0)]
    )


def expected_choice(c, p, q):
    w = max(width(c), width(p), width(q))
    no = [("move", 0, w)] + cleaning_of(q) + q + [("set", w, "100")]
    yes = [("move", 0, w)] + cleaning_of(p) + p
    return (
        [("move", w, 0)] + c + [("jump", 0, 1 + len(no) + 1)] + no + [("jump", w, 1 + len(yes))] + yes
    )


def expected_loop(c, p):
    w = max(width(c), width(p))
    test = [("move", w, 0)] + cleaning_of(c) + c
    body = [("move", 0, w)] + cleaning_of(p) + p + [("set", w, "100")]
    out = [("move", 0, w), ("set", w, "100"), ("jump", w, 1 + len(body) + 1)]
    before = test + [("jump", 0, 1 + len(out))] + out + body
    return before + [("jump", w, -len(before))]


def some_programs(chance, many):
    """Return a mixture of chosen and random programs of several widths."""
    found = []
    for _ in range(many):
        if chance.random() < 0.4:
            found.append(chance.choice(SAMPLES))
        else:
            found.append(random_program(chance, chance.randrange(9), chance.choice([1, 2, 4, 16])))
    return found


class Constant(unittest.TestCase):
    def test_instructions(self):
        for tree in INPUTS + (LARGEST,):
            self.assertEqual(constant(tree), [("set", 0, tree)])

    def test_runs(self):
        for tree in INPUTS:
            for x in INPUTS + (LARGEST,):
                self.assertEqual(run(constant(tree), x, 1), (tree, 1))
        self.assertEqual(run(constant(LARGEST), LARGEST, 1), (LARGEST, 1))

    def test_too_large(self):
        with self.assertRaises(TooLarge):
            constant(number(100000))


class Instructions(unittest.TestCase):
    def test_chain_as_text(self):
        self.assertEqual(chain([]), [])
        self.assertEqual(chain([[]]), [])
        self.assertEqual(chain([SWAP]), SWAP)
        self.assertEqual(
            chain([parse("set 3 100"), parse("cons 0 2 1"), [], HEAD, parse("jump 1 0")]),
            parse("set 3 100; set 1 0; set 2 0; cons 0 2 1; head 0 0; set 1 0; jump 1 0"),
        )

    def test_both_as_text(self):
        self.assertEqual(both([], []), parse("move 1 0; move 2 0; move 0 1; cons 0 2 0"))
        self.assertEqual(
            both(parse("tail 4 0"), parse("cons 2 0 0; jump 2 1")),
            parse("move 5 0; tail 4 0; move 6 0; move 0 5; set 1 0; set 2 0; cons 2 0 0; jump 2 1; cons 0 6 0"),
        )

    def test_choice_as_text(self):
        self.assertEqual(
            choice([], [], []), parse("move 1 0; jump 0 4; move 0 1; set 1 100; jump 1 2; move 0 1")
        )
        self.assertEqual(
            choice(parse("head 0 0"), parse("move 2 0; jump 2 1"), parse("set 1 11000")),
            parse(
                "move 3 0; head 0 0; jump 0 6; "
                "move 0 3; set 1 0; set 1 11000; set 3 100; jump 3 6; "
                "move 0 3; set 1 0; set 2 0; move 2 0; jump 2 1"
            ),
        )

    def test_loop_as_text(self):
        self.assertEqual(
            loop([], []), parse("move 1 0; jump 0 4; move 0 1; set 1 100; jump 1 4; move 0 1; set 1 100; jump 1 -7")
        )
        self.assertEqual(
            loop(parse("head 1 0"), parse("tail 2 0; jump 2 -1")),
            parse(
                "move 3 0; set 1 0; head 1 0; jump 0 4; "
                "move 0 3; set 3 100; jump 3 8; "
                "move 0 3; set 1 0; set 2 0; tail 2 0; jump 2 -1; set 3 100; jump 3 -13"
            ),
        )

    def test_wording_for_many_programs(self):
        chance = random.Random(1)
        for _ in range(500):
            c, p, q = some_programs(chance, 3)
            if max(width(c), width(p), width(q)) <= 16:
                self.assertEqual(both(p, q), expected_both(p, q))
                self.assertEqual(choice(c, p, q), expected_choice(c, p, q))
                self.assertEqual(loop(c, p), expected_loop(c, p))
                self.assertEqual(chain([c, p, q]), c + cleaning_of(p) + p + cleaning_of(q) + q)
                for made in (both(p, q), choice(c, p, q), loop(c, p), chain([p, q])):
                    self.assertTrue(is_program(made))

    def test_greatest_width(self):
        for at in range(3):
            parts = [[], [], []]
            parts[at] = wide(16)
            self.assertEqual(choice(*parts), expected_choice(*parts))
            self.assertEqual(width(choice(*parts)), 17)
        for parts in ([wide(16), []], [[], wide(16)], [wide(16), wide(16)]):
            self.assertEqual(both(*parts), expected_both(*parts))
            self.assertEqual(width(both(*parts)), 18)
            self.assertEqual(loop(*parts), expected_loop(*parts))
            self.assertEqual(width(loop(*parts)), 17)


class Runs(unittest.TestCase):
    """What the composed programs return, and with how many steps, against runs of their parts."""

    def assert_runs(self, program, x, expected):
        """Hold a run against the pair of a result and a number of steps, or against None for no end."""
        self.assertEqual(ended(program, x, 5 * LONG if expected else LONG), expected)
        if expected and expected[1] > 0:
            self.assertIsNone(ended(program, x, expected[1] - 1))

    def test_chain(self):
        chance = random.Random(2)
        ends = 0
        for _ in range(300):
            programs = some_programs(chance, chance.randrange(5))
            for x in INPUTS:
                expected = (x, 0)
                for index, program in enumerate(programs):
                    part = ended(program, expected[0], LONG)
                    if part is None:
                        expected = None
                        break
                    between = width(program) - 1 if index else 0
                    expected = (part[0], expected[1] + between + part[1])
                self.assert_runs(chain(programs), x, expected)
                ends += expected is not None
        self.assertGreater(ends, 300)
        self.assertLess(ends, 300 * len(INPUTS) - 300)

    def test_both(self):
        chance = random.Random(3)
        ends = 0
        for _ in range(300):
            p, q = some_programs(chance, 2)
            for x in INPUTS:
                first, second = ended(p, x, LONG), ended(q, x, LONG)
                expected = None
                if first and second:
                    steps = 1 + first[1] + 2 + width(q) - 1 + second[1] + 1
                    expected = (cons(first[0], second[0]), steps)
                self.assert_runs(both(p, q), x, expected)
                ends += expected is not None
        self.assertGreater(ends, 300)
        self.assertLess(ends, 300 * len(INPUTS) - 300)

    def test_choice(self):
        chance = random.Random(4)
        seen = {}
        for _ in range(400):
            c, p, q = some_programs(chance, 3)
            for x in INPUTS:
                test = ended(c, x, LONG)
                yes = test is not None and test[0] != "0"
                chosen, extra = (p, 0) if yes else (q, 2)
                part = test and ended(chosen, x, LONG)
                expected = part and (part[0], 1 + test[1] + 1 + 1 + width(chosen) - 1 + part[1] + extra)
                self.assert_runs(choice(c, p, q), x, expected)
                kind = (test is not None, yes, part is not None)
                seen[kind] = seen.get(kind, 0) + 1
        self.assertEqual(len(seen), 5)
        self.assertGreater(min(seen.values()), 50)

    def expected_of_loop(self, c, p, x):
        """Do what point 10 says of loop, and return False where a tree grows too long to go on."""
        steps = 0
        while steps < LONG:
            if len(x) > 5000:
                return False
            test = ended(c, x, LONG)
            if test is None:
                return None
            steps += 1 + width(c) - 1 + test[1] + 1
            if test[0] == "0":
                return x, steps + 3
            part = ended(p, x, LONG)
            if part is None:
                return None
            x = part[0]
            steps += 1 + width(p) - 1 + part[1] + 2
        return None

    def test_loop(self):
        chance = random.Random(5)
        seen = {}
        for _ in range(400):
            c, p = some_programs(chance, 2)
            for x in INPUTS:
                expected = self.expected_of_loop(c, p, x)
                if expected is not False:
                    self.assert_runs(loop(c, p), x, expected)
                    rounds = "none" if expected is None else expected[1] > 1 + width(c) + 40
                    seen[rounds] = seen.get(rounds, 0) + 1
        self.assertEqual(len(seen), 3)
        self.assertGreater(min(seen.values()), 20)

    def test_loops_of_many_rounds(self):
        # A round: move, test of 0 steps, jump; move, 1 step of the body, set, jump.
        for n in (0, 1, 2, 1000):
            self.assertEqual(run(loop([], TAIL), number(n), 10000), ("0", 6 * n + 5))
        self.assertEqual(run(loop(TAIL, TAIL), number(5), 100)[0], number(1))
        self.assertEqual(run(loop(constant("0"), FOREVER), "11000", 100)[0], "11000")

    def test_registers_are_clean(self):
        # LOOK_AT_REGISTERS returns another tree if it does not find all its registers clean.
        look = LOOK_AT_REGISTERS
        for x in INPUTS:
            once = run(look, x, 8)[0]
            twice = run(look, once, 8)[0]
            self.assertEqual(run(chain([look, look]), x, 100)[0], twice)
            self.assertEqual(run(both(look, look), x, 100)[0], cons(once, once))
            self.assertEqual(run(choice(look, look, HEAD), x, 100)[0], once)
            self.assertEqual(run(choice(constant("0"), HEAD, look), x, 100)[0], once)
            stop_behind_2 = parse("tail 1 0; tail 2 1; move 0 2")
            grow = parse("set 5 100; set 4 100; cons 0 4 0; tail 0 0; tail 0 0; cons 1 1 5")
            self.assertEqual(run(loop(stop_behind_2, grow), number(7), 300)[0], number(2))
        # Registers that the condition leaves behind: each part reads register 1 first.
        dirty = parse("set 1 100; set 2 100; set 3 100")
        show = parse("cons 0 1 0; cons 0 2 0; cons 0 3 0; set 1 11000; set 2 100; set 3 100")
        clean = "10" * 3 + "100"
        self.assertEqual(run(choice(dirty, show, HEAD), "100", 100)[0], clean)
        self.assertEqual(run(chain([dirty, show]), "100", 100)[0], clean)
        self.assertEqual(run(both(dirty, show), "100", 100)[0], cons("100", clean))
        self.assertEqual(
            run(choice(dirty + [("set", 0, "0")], HEAD, show), "100", 100)[0], clean,
        )

    def test_no_end(self):
        never = [FOREVER, END_ON_LEAF, END_ON_PAIR[:2] + [("jump", 1, 0)]]
        for program in never[:2]:
            for made in (
                chain([program, HEAD]), chain([ADD_1, program]), both(program, []), both([], program),
                choice(program, [], []), choice(constant("100"), program, []), choice(constant("0"), [], program),
                loop(program, []), loop(constant("100"), program), loop([], []),
            ):
                self.assertIsNone(ended(made, "100", 1000000 if program is FOREVER else 5000))
        self.assertIsNotNone(ended(choice(constant("100"), [], FOREVER), "100", 100))
        self.assertIsNotNone(ended(choice(constant("0"), FOREVER, []), "100", 100))
        self.assertIsNotNone(ended(loop([], FOREVER), "0", 100))

    def test_large_trees(self):
        half = number(49999)
        self.assertEqual(run(both([], []), half, 10), (cons(half, half), 4))
        with self.assertRaises(TooLarge):
            run(both([], []), number(50000), 10)
        self.assertEqual(run(chain([TAIL, TAIL]), LARGEST, 10), (number(99997), 2))
        self.assertEqual(run(loop([], TAIL), number(99999), 1000000), ("0", 6 * 99999 + 5))
        state, done = after(choice(HEAD, [], []), LARGEST, 100)
        self.assertEqual((state[1][0], done), (LARGEST, 6))


class Chains(unittest.TestCase):
    def test_associative(self):
        chance = random.Random(6)
        for _ in range(200):
            p, q, r = some_programs(chance, 3)
            left = chain([chain([p, q]), r])
            right = chain([p, chain([q, r])])
            for x in INPUTS:
                flat = ended(chain([p, q, r]), x, LONG)
                results = [ended(made, x, 5 * LONG) for made in (left, right)]
                if flat:
                    self.assertEqual([found[0] for found in results], [flat[0]] * 2)

    def test_no_end_is_associative(self):
        for parts in itertools.permutations([FOREVER, HEAD, ADD_1]):
            p, q, r = parts
            for made in (chain([chain([p, q]), r]), chain([p, chain([q, r])]), chain(list(parts))):
                self.assertIsNone(ended(made, "100", 10000))

    def test_empty_program_is_neutral(self):
        for program in SAMPLES:
            self.assertEqual(chain([program, []]), program)
            for made in (chain([[], program]), chain([[], program, [], []])):
                for x in INPUTS:
                    expected = ended(program, x, LONG)
                    found = ended(made, x, 2 * LONG)
                    self.assertEqual(found and found[0], expected and expected[0])

    def test_many(self):
        self.assertEqual(run(chain([ADD_1] * 70), "0", 1000)[0], number(70))
        self.assertEqual(chain([[]] * 10000), [])
        self.assertEqual(run(chain([TAIL] * 600), number(700), 600), (number(100), 600))


class Limits(unittest.TestCase):
    def assert_limit(self, function, *arguments):
        """Hold a result at a limit as a program."""
        self.assertTrue(is_program(function(*arguments)))

    def test_too_wide(self):
        for program in (wide(17), wide(20), [("set", 16, "0")], parse("jump 16 0"), [("cons", 0, 0, 19)]):
            calls = [
                (chain, [program]), (chain, [[], program]), (chain, [program, []]), (chain, [HEAD, HEAD, program]),
            ]
            for function, programs in calls:
                with self.assertRaises(TooWide):
                    function(programs)
            for function, count in ((both, 2), (choice, 3), (loop, 2)):
                for at in range(count):
                    parts = [SWAP] * count
                    parts[at] = program
                    with self.assertRaises(TooWide):
                        function(*parts)
        self.assertEqual(chain([wide(16)]), wide(16))

    def test_too_wide_comes_before_too_large(self):
        long = [("move", 0, 0)] * 600
        large = [("set", 0, LARGEST)]
        for program in (long, large):
            for parts in ([program, wide(17)], [wide(17), program]):
                with self.assertRaises(TooWide):
                    chain(parts + [program])
                with self.assertRaises(TooWide):
                    both(*parts)
                with self.assertRaises(TooWide):
                    loop(*parts)
                with self.assertRaises(TooWide):
                    choice(program, *parts)
        with self.assertRaises(TooWide):
            both(large + wide(17), large)

    def assert_lengths(self, function, parts, rest):
        """Hold 600 instructions against 601; the rest is what one more of the parts adds beside itself."""
        for at in range(parts):
            programs = [[]] * parts
            programs[at] = [("move", 0, 0)] * (600 - rest)
            made = function(*programs)
            self.assertEqual(len(made), 600)
            self.assertTrue(is_program(made))
            programs[at] = [("move", 0, 0)] * (601 - rest)
            with self.assertRaises(TooLarge):
                function(*programs)

    def test_number_of_instructions(self):
        self.assert_lengths(lambda p, q: chain([p, q]), 2, 0)
        self.assert_lengths(both, 2, 4)
        self.assert_lengths(choice, 3, 6)
        self.assert_lengths(loop, 2, 8)

    def test_cleanings_count(self):
        long = [("move", 0, 0)] * 584
        self.assertEqual(len(chain([long, wide(16)])), 600)
        with self.assertRaises(TooLarge):
            chain([long + [("move", 0, 0)], wide(16)])
        self.assertEqual(len(chain([long + [("move", 0, 0)] * 14, wide(2)])), 600)
        self.assertEqual(len(chain([wide(16), long + [("move", 0, 0)] * 15])), 600)

    def assert_trees(self, function, rest):
        """Hold 200,000 characters in trees against more; rest is what the result has beside the given ones."""
        sizes = [100001, 99999 - rest] if rest % 2 == 0 else [100001, 99999 - rest - 1, 1]
        program = [("set", 0, number(size // 2)) for size in sizes]
        made = function(program)
        self.assertTrue(is_program(made))
        self.assertEqual(sum(len(line[2]) for line in made if line[0] == "set"), 200000)
        for more in (program + [("set", 0, "0")], [("set", 0, number(50001))] + program[1:]):
            with self.assertRaises(TooLarge):
                function(more)

    def test_characters_of_trees(self):
        three = wide(4)
        self.assert_trees(lambda p: chain([p]), 0)
        self.assert_trees(lambda p: chain([three, p]), 0)
        self.assert_trees(lambda p: chain([p, three]), 3)
        self.assert_trees(lambda p: chain([p, three, three]), 6)
        self.assert_trees(lambda p: both(p, []), 0)
        self.assert_trees(lambda p: both(three, p), 0)
        self.assert_trees(lambda p: both(p, three), 3)
        self.assert_trees(lambda p: choice(p, [], []), 3)
        self.assert_trees(lambda p: choice([], p, []), 3)
        self.assert_trees(lambda p: choice(three, three, p), 6)
        self.assert_trees(lambda p: loop(p, []), 6)
        self.assert_trees(lambda p: loop(three, p), 9)
        self.assert_trees(lambda p: loop(p, three), 9)

    def test_one_character_too_many(self):
        # 199,999 characters and 1 are allowed, and another 1 is not.
        large = [("set", 0, LARGEST)]
        one = [("set", 0, "0")]
        self.assertTrue(is_program(chain([large, one])))
        with self.assertRaises(TooLarge):
            chain([large, one, one])
        self.assertTrue(is_program(both(large, one)))
        with self.assertRaises(TooLarge):
            both(large + one, one)
        with self.assertRaises(TooLarge):
            choice(large, [], [])
        with self.assertRaises(TooLarge):
            loop(large, [])

    def test_large_in_both_ways_at_once(self):
        program = [("set", 0, LARGEST)] * 400
        for made in (lambda: chain([program, program]), lambda: both(program, program)):
            with self.assertRaises(TooLarge):
                made()


class NoEffects(unittest.TestCase):
    def results(self, parts):
        return [
            chain(parts), chain(parts[:1]), chain([]), both(*parts[:2]), choice(*parts), loop(*parts[:2]),
            constant("100"),
        ]

    def test_arguments_stay_as_they_are(self):
        parts = [list(SWAP), list(ADD_1), list(NARROW_REVERSE)]
        copies = [list(part) for part in parts]
        held = list(parts)
        self.results(parts)
        self.assertEqual(parts, copies)
        self.assertTrue(all(part is other for part, other in zip(parts, held)))
        wrong = [list(SWAP), wide(17), [("move", 0, 0)] * 600]
        copies = [list(part) for part in wrong]
        for function in (lambda: chain(wrong), lambda: both(*wrong[:2]), lambda: choice(*wrong)):
            with self.assertRaises(TooWide):
                function()
        self.assertEqual(wrong, copies)

    def test_results_are_new_lists(self):
        parts = [list(SWAP), list(ADD_1), list(NARROW_REVERSE)]
        first = self.results(parts)
        expected = [list(made) for made in first]
        self.assertTrue(all_different(first + parts + self.results(parts)))
        for made in first:
            made.append(("move", 0, 0))
            made[0] = ("set", 0, "11000")
        self.assertEqual(parts, [SWAP, ADD_1, NARROW_REVERSE])
        self.assertEqual(self.results(parts), expected)

    def test_arguments_that_change_later(self):
        part = list(SWAP)
        made = [chain([part]), both(part, part), choice(part, part, part), loop(part, part)]
        expected = [list(program) for program in made]
        part.clear()
        self.assertEqual(made, expected)

    def test_the_same_list_several_times(self):
        part = list(ADD_1)
        self.assertEqual(run(chain([part] * 3), "0", 100)[0], number(3))
        self.assertEqual(run(both(part, part), number(2), 100)[0], cons(number(3), number(3)))
        self.assertEqual(tail(run(both(part, part), "0", 100)[0]), list_of(["0"]))


if __name__ == "__main__":
    unittest.main()
