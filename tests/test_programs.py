import itertools
import random
import unittest

import oracle
from narcissus.errors import BadText, NoCode, TooLarge
from narcissus.programs import MOST_CODE, REGISTERS, code, decode, is_program, parse, text, width
from narcissus.trees import is_tree, items_of, list_of, number

EACH = [
    ("set", 0, "0"), ("set", 19, "11000"), ("move", 3, 4), ("cons", 5, 6, 7), ("head", 8, 9), ("tail", 10, 11),
    ("jump", 12, 1), ("jump", 13, 0), ("jump", 14, -8),
]
EACH_TEXT = (
    "set 0 0; set 19 11000; move 3 4; cons 5 6 7; head 8 9; tail 10 11; jump 12 1; jump 13 0; jump 14 -8"
)
IN_TAILS = "10" * 99999 + "0"
IN_HEADS = "1" * 99999 + "0" * 100000
BY_TURNS = "110" * 49999 + "100" + "0" * 49999
SMALL_PROGRAMS = oracle.programs_with(7)


def nested(kind, depth):
    value = kind([])
    for _ in range(depth):
        value = kind([value])
    return value


def random_program(chance, count):
    """Return a program with so many instructions."""
    program = []
    for index in range(count):
        a, b, c = (chance.randrange(REGISTERS) for _ in range(3))
        program.append(chance.choice([
            ("set", a, chance.choice(["0", "100", "11000", "1100100", number(chance.randrange(30))])),
            ("move", a, b), ("cons", a, b, c), ("head", a, b), ("tail", a, b),
            ("jump", a, chance.randint(-index, count - index)),
        ]))
    return program


# What a tree, a register or the way of a jump may be exchanged for in a wrong program.
OTHER_PARTS = (
    True, False, None, "", "1", "x", "00", "10", -1, 20, 601, -601, 10 ** 400, -10 ** 400, "0", "100", "5", [], (),
    ["0"], ("0",), nested(list, 1000), nested(tuple, 1000),
)


class IsProgram(unittest.TestCase):
    def test_ordinary(self):
        self.assertIs(is_program([]), True)
        self.assertIs(is_program(EACH), True)
        for program in SMALL_PROGRAMS:
            self.assertIs(is_program(program), True)
        chance = random.Random(5)
        for count in (1, 2, 3, 10, 100, 600):
            self.assertIs(is_program(random_program(chance, count)), True)

    def test_registers(self):
        for word, least in (("set", "0"), ("jump", 0), ("move", 0), ("head", 0), ("tail", 0)):
            for a in range(-2, 23):
                self.assertIs(is_program([(word, a, least)]), 0 <= a <= 19)
        for word in ("move", "head", "tail"):
            for b in range(-2, 23):
                self.assertIs(is_program([(word, 0, b)]), 0 <= b <= 19)
        for a in range(-2, 23):
            self.assertIs(is_program([("cons", a, 0, 0)]), 0 <= a <= 19)
            self.assertIs(is_program([("cons", 0, a, 0)]), 0 <= a <= 19)
            self.assertIs(is_program([("cons", 0, 0, a)]), 0 <= a <= 19)

    def test_jumps(self):
        for count in range(1, 8):
            for index in range(count):
                for n in range(-10, 11):
                    program = [("move", 0, 0)] * count
                    program[index] = ("jump", 0, n)
                    self.assertIs(is_program(program), 0 <= index + n <= count)

    def test_jumps_of_the_longest_programs(self):
        rest = [("move", 0, 0)] * 599
        self.assertIs(is_program([("jump", 0, 600)] + rest), True)
        self.assertIs(is_program([("jump", 0, 601)] + rest), False)
        self.assertIs(is_program([("jump", 0, -1)] + rest), False)
        self.assertIs(is_program(rest + [("jump", 0, 1)]), True)
        self.assertIs(is_program(rest + [("jump", 0, 2)]), False)
        self.assertIs(is_program(rest + [("jump", 0, -599)]), True)
        self.assertIs(is_program(rest + [("jump", 0, -600)]), False)

    def test_parts_that_are_exchanged(self):
        for index, instruction in enumerate(EACH):
            word = instruction[0]
            for at in range(1, len(instruction)):
                for part in OTHER_PARTS:
                    integer = type(part) is int
                    right = integer and 0 <= part <= 19
                    if word == "set" and at == 2:
                        right = type(part) is str and is_tree(part)
                    if word == "jump" and at == 2:
                        right = integer and 0 <= index + part <= len(EACH)
                    program = list(EACH)
                    program[index] = instruction[:at] + (part,) + instruction[at + 1:]
                    self.assertIs(is_program(program), right, (index, at))

    def test_words(self):
        words = (
            "", "Set", "SET", "set ", " set", "mov", "moved", "con", "cons ", "heads", "Tail", "goto", "jum", "halt",
            "s", "rr", None, True, False, 0, 1, 5, [], (), ["set"], ("set",), nested(list, 1000), nested(tuple, 1000),
        )
        for word in words:
            self.assertIs(is_program([(word, 0, 0)]), False)
            self.assertIs(is_program([(word, 0, "0")]), False)
            self.assertIs(is_program([(word, 0, 0, 0)]), False)
            self.assertIs(is_program([(word,)]), False)

    def test_words_that_are_exchanged(self):
        for word in ("set", "move", "cons", "head", "tail", "jump"):
            self.assertIs(is_program([(word, 0, 0)]), word in ("move", "head", "tail", "jump"))
            self.assertIs(is_program([(word, 0, "0")]), word == "set")
            self.assertIs(is_program([(word, 0, 0, 0)]), word == "cons")

    def test_too_many_and_too_few_parts(self):
        for index, instruction in enumerate(EACH):
            longer = [instruction + (part,) for part in (0, 1, "0", None)]
            shorter = [instruction[:count] for count in range(len(instruction))]
            for wrong in longer + shorter:
                program = list(EACH)
                program[index] = wrong
                self.assertIs(is_program(program), False)

    def test_lists_for_tuples(self):
        for index, instruction in enumerate(EACH):
            for wrong in (list(instruction), [instruction], (instruction,), text([instruction]), instruction[0]):
                program = list(EACH)
                program[index] = wrong
                self.assertIs(is_program(program), False)
        self.assertIs(is_program(tuple(EACH)), False)
        self.assertIs(is_program(()), False)

    def test_other_values(self):
        values = [
            None, True, False, 0, 1, -5, 10 ** 400, "", "0", "set 0 0", EACH_TEXT, (), ("set", 0, "0"), [None], [True],
            [0], [""], ["set"], [[]], [()], ["move", 0, 0], [EACH], [tuple(EACH)], nested(list, 1), nested(list, 3),
        ]
        for value in values:
            self.assertIs(is_program(value), False)
            if value != []:
                self.assertIs(is_program([("move", 0, 0), value, ("move", 0, 0)]), value == ("set", 0, "0"))

    def test_deep_values(self):
        for kind in (list, tuple):
            value = nested(kind, 100000)
            for wrong in (value, [value], [("set", 0, value)], [("jump", value, 0)], [(value, 0, 0)], [("set",) + (value,)]):
                self.assertIs(is_program(wrong), False)

    def test_600_and_601_instructions(self):
        self.assertEqual((MOST_CODE, REGISTERS), (600, 20))
        self.assertIs(is_program([("move", 0, 0)] * 600), True)
        self.assertIs(is_program([("move", 0, 0)] * 601), False)
        self.assertIs(is_program([("set", 0, "0")] * 601), False)
        self.assertIs(is_program([None] * 1000000), False)

    def test_trees_together(self):
        half = number(49999)
        self.assertEqual(len(half), 99999)
        for count, last, right in (
            (1, "0", True), (1, number(50000), True), (1, number(50001), False), (2, "0", True), (2, "100", False),
            (2, "0" * 2, False), (3, "0", False),
        ):
            program = [("set", 1, half)] * count + [("move", 1, 2), ("set", 1, last)]
            total = count * 99999 + len(last)
            self.assertEqual(right, total <= 200000 and is_tree(last))
            self.assertIs(is_program(program), right)

    def test_exactly_200000_characters_of_trees(self):
        program = [("set", 1, IN_HEADS), ("set", 2, "0")]
        self.assertIs(is_program(program), True)
        self.assertIs(is_program(program + [("set", 3, "0")]), False)
        self.assertIs(is_program([("set", 3, "0")] + program), False)
        self.assertIs(is_program([("set", 1, IN_TAILS), ("set", 2, "100")]), False)
        self.assertIs(is_program([("set", 1, IN_TAILS)] * 600), False)
        many = [("set", 0, number(166))] * 598
        rest = 200000 - 598 * 333
        self.assertIs(is_program(many + [("set", 0, number((rest - 1) // 2)), ("move", 0, 0)]), True)
        self.assertIs(is_program(many + [("set", 0, number((rest + 1) // 2)), ("move", 0, 0)]), False)

    def test_too_large_trees(self):
        self.assertIs(is_program([("set", 0, IN_TAILS)]), True)
        self.assertIs(is_program([("set", 0, "10" * 100000 + "0")]), False)
        self.assertIs(is_program([("set", 0, IN_TAILS[:-1])]), False)
        self.assertIs(is_program([("set", 0, IN_TAILS[1:])]), False)

    def test_arguments_stay_as_they_are(self):
        program = list(EACH)
        is_program(program)
        width(program)
        code(program)
        text(program)
        self.assertEqual(program, EACH)


class Width(unittest.TestCase):
    def test_without_registers(self):
        self.assertEqual(width([]), 1)

    def test_each_place_of_a_register(self):
        for a in range(20):
            programs = [[("set", a, "0")], [("jump", a, 1)]]
            for word in ("move", "head", "tail"):
                programs += [[(word, a, 0)], [(word, 0, a)]]
            programs += [[("cons", a, 0, 0)], [("cons", 0, a, 0)], [("cons", 0, 0, a)]]
            for program in programs:
                self.assertEqual(width(program), a + 1)
                self.assertEqual(width([("move", 0, 0)] + program + [("move", 0, 0)]), a + 1)

    def test_other_integers_do_not_count(self):
        program = [("jump", 1, 30)] + [("move", 0, 0)] * 29 + [("set", 2, number(25))]
        self.assertEqual(width(program), 3)

    def test_greatest_of_several(self):
        self.assertEqual(width(EACH), 20)
        self.assertEqual(width(EACH[2:]), 15)


class Code(unittest.TestCase):
    def test_example(self):
        self.assertEqual(code([("tail", 0, 0)]), "111010101001000")
        self.assertEqual(decode("111010101001000"), [("tail", 0, 0)])

    def test_empty(self):
        self.assertEqual(code([]), "0")
        self.assertEqual(decode("0"), [])

    def test_each_instruction(self):
        for instruction in EACH:
            program = [("move", 0, 0)] * 8 + [instruction]
            tree = code(program)
            self.assertEqual(tree, oracle.code(program))
            self.assertEqual(decode(tree), program)
        self.assertEqual(code(EACH), oracle.code(EACH))

    def test_small_programs(self):
        for program in SMALL_PROGRAMS:
            tree = code(program)
            self.assertEqual(tree, oracle.code(program))
            self.assertEqual(decode(tree), program)

    def test_random_programs(self):
        chance = random.Random(6)
        for count in list(range(1, 40)) + [600]:
            program = random_program(chance, count)
            tree = code(program)
            self.assertTrue(is_tree(tree))
            self.assertEqual(decode(tree), program)
            if count < 40:
                self.assertEqual(tree, oracle.code(program))

    def test_largest(self):
        shell = len(code([("set", 3, "0")])) - 1
        size = 199999 - shell
        for tree in (number((size - 1) // 2), "1" * (size // 2) + "0" * (size // 2 + 1)):
            program = [("set", 3, tree)]
            self.assertEqual(len(code(program)), 199999)
            self.assertEqual(decode(code(program)), program)
        for wrong in (number((size + 1) // 2), IN_TAILS, IN_HEADS, BY_TURNS):
            self.assertTrue(is_program([("set", 3, wrong)]))
            with self.assertRaises(TooLarge):
                code([("set", 3, wrong)])

    def test_largest_of_many_instructions(self):
        jump = [("jump", 19, -599)]
        rest = [("move", 19, 19)] * 598
        program = [("set", 19, "0")] + rest + jump
        size = 199999 - len(code(program)) + 1
        program[0] = ("set", 19, number((size - 1) // 2))
        self.assertEqual(len(code(program)), 199999)
        self.assertEqual(decode(code(program)), program)
        program[0] = ("set", 19, number((size + 1) // 2))
        self.assertTrue(is_program(program))
        with self.assertRaises(TooLarge):
            code(program)

    def test_too_large_by_its_instructions_alone(self):
        program = [("set", 0, number(5000))] * 19 + [("jump", 19, 500)] + [("cons", 19, 19, 19)] * 580
        self.assertTrue(is_program(program))
        with self.assertRaises(TooLarge):
            code(program)


class Decode(unittest.TestCase):
    def test_all_small_trees(self):
        codes = {oracle.code(program): program for program in oracle.programs_with(9)}
        for pairs in range(10):
            for tree in oracle.trees_with(pairs):
                if tree in codes:
                    self.assertEqual(decode(tree), codes[tree])
                else:
                    with self.assertRaises(NoCode):
                        decode(tree)

    def assert_no_code(self, tree):
        tree = oracle.sign_string(tree) if isinstance(tree, tuple) else tree
        self.assertTrue(is_tree(tree))
        with self.assertRaises(NoCode):
            decode(tree)

    def test_instructions_that_are_none(self):
        n = oracle.number
        leaf = oracle.LEAF
        no_number = ((leaf, leaf), leaf)
        instructions = [
            leaf, (n(0), leaf), (n(1), leaf), (n(2), leaf), (n(5), leaf), (n(6), (leaf, leaf)), (n(7), (leaf, leaf)),
            (no_number, (leaf, leaf)), (n(0), (n(20), leaf)), (n(0), (no_number, leaf)), (n(1), (n(20), n(0))),
            (n(1), (n(0), n(20))), (n(1), (n(0), no_number)), (n(1), (no_number, n(0))), (n(2), (n(0), leaf)),
            (n(2), (n(0), (n(0), n(20)))), (n(2), (n(0), (n(20), n(0)))), (n(2), (n(20), (n(0), n(0)))),
            (n(2), (n(0), (n(0), no_number))), (n(3), (n(20), n(0))), (n(4), (n(0), n(20))), (n(5), (n(0), leaf)),
            (n(5), (n(20), (leaf, n(0)))), (n(5), (n(0), (leaf, n(2)))), (n(5), (n(0), ((leaf, leaf), n(0)))),
            (n(5), (n(0), ((leaf, leaf), n(1)))), (n(5), (n(0), (n(2), n(0)))), (n(5), (n(0), (no_number, n(0)))),
            (n(5), (n(0), (leaf, no_number))), (n(5), (no_number, (leaf, n(0)))),
        ]
        for instruction in instructions:
            self.assert_no_code((instruction, leaf))

    def test_signs_of_jumps(self):
        n = oracle.number
        leaf = oracle.LEAF
        move = (n(1), (leaf, leaf))
        for sign, size, jump in (
            (leaf, 0, 0), (leaf, 1, 1), ((leaf, leaf), 1, -1), ((leaf, leaf), 0, None), (leaf, 2, None),
            ((leaf, leaf), 2, None), (n(2), 1, None), (((leaf, leaf), leaf), 1, None),
        ):
            tree = (move, ((n(5), (leaf, (sign, n(size)))), leaf))
            if jump is None:
                self.assert_no_code(tree)
            else:
                self.assertEqual(decode(oracle.sign_string(tree)), [("move", 0, 0), ("jump", 0, jump)])

    def test_600_and_601_instructions(self):
        item = items_of(code([("move", 0, 0)]))[0]
        self.assertEqual(decode(list_of([item] * 600)), [("move", 0, 0)] * 600)
        self.assert_no_code(list_of([item] * 601))

    def test_deep_trees(self):
        for tree in (IN_TAILS, IN_HEADS, BY_TURNS):
            self.assert_no_code(tree)
        for tree in (number(99000), "1" * 99000 + "0" * 99001, "110" * 49000 + "0" * 49001):
            program = [("set", 0, tree)]
            self.assertEqual(decode(code(program)), program)
            for place in (1, 2, 3, 4, 5, 6):
                self.assert_no_code(list_of(["1" + number(place) + "10" + tree]))

    def test_codes_with_a_sign_changed(self):
        tree = code(EACH[2:7])
        count = 0
        for first, second in itertools.combinations(range(len(tree)), 2):
            signs = list(tree)
            signs[first], signs[second] = signs[second], signs[first]
            changed = "".join(signs)
            if is_tree(changed):
                try:
                    self.assertEqual(code(decode(changed)), changed)
                except NoCode:
                    count += 1
        self.assertGreater(count, 100)

    def test_results_are_new(self):
        tree = code(EACH)
        found = decode(tree)
        found.append(None)
        self.assertEqual(decode(tree), EACH)


class Text(unittest.TestCase):
    def assert_bad(self, line):
        with self.assertRaises(BadText):
            parse(line)

    def test_examples(self):
        program = [("set", 1, "100"), ("jump", 0, -1)]
        self.assertEqual(text(program), "set 1 100; jump 0 -1")
        self.assertEqual(parse("set 1 100; jump 0 -1"), program)
        self.assertEqual(text([]), "")
        self.assertEqual(parse(""), [])

    def test_each_instruction(self):
        self.assertEqual(text(EACH), EACH_TEXT)
        self.assertEqual(parse(EACH_TEXT), EACH)

    def test_small_and_random_programs(self):
        chance = random.Random(7)
        programs = SMALL_PROGRAMS + [random_program(chance, count) for count in list(range(40)) + [600]]
        for program in programs:
            self.assertEqual(parse(text(program)), program)

    def test_each_way_of_a_jump(self):
        for n in range(-599, 601):
            index = max(0, -n)
            program = [("move", 0, 0)] * 600
            program[index] = ("jump", 0, n)
            self.assertEqual(parse(text(program)), program)

    def test_largest(self):
        program = [("set", 1, IN_HEADS), ("set", 2, "0")]
        self.assertEqual(parse(text(program)), program)
        self.assert_bad(text(program) + "; set 3 0")
        self.assert_bad("set 1 " + "10" * 100000 + "0")
        self.assertEqual(parse("; ".join(["move 0 0"] * 600)), [("move", 0, 0)] * 600)
        self.assert_bad("; ".join(["move 0 0"] * 601))
        self.assert_bad("; ".join(["move 0 0"] * 300000))

    def test_changed_lines(self):
        for line in ("set 1 100; jump 0 -1", "move 3 12; cons 0 10 19; jump 2 1"):
            signs = "0129- ;x.+_,\n\t\u0661\u00b2\u2212\ud800\u00a0"
            changed = []
            for at in range(len(line) + 1):
                changed += [line[:at] + sign + line[at:] for sign in signs]
                changed += [line[:at] + sign + line[at + 1:] for sign in signs]
                changed += [line[:at] + line[at + 1:], line[:at], line[at:]]
            read = 0
            for other in changed:
                try:
                    program = parse(other)
                except BadText:
                    continue
                read += 1
                self.assertTrue(is_program(program))
                self.assertEqual(text(program), other)
            self.assertGreater(read, 5)
            self.assertLess(read, len(changed) // 4)

    def test_other_forms_of_integers(self):
        for word in (
            "-0", "00", "01", "-01", "+1", " 1", "1 ", "", "-", "--1", "1-", "0x1", "0b1", "1_0", "1e0", "1.0", "one",
            "None", "True", "\u0661", "\u00b9", "\uff11", "-\u0661", "\u22121", "1\n", "\n1", "1\t", "10" * 3000,
            "9" * 5000, "-" + "9" * 5000, "0" * 5000,
        ):
            self.assert_bad("move 0 0; jump 0 " + word)
            self.assert_bad("move " + word + " 0")
            self.assert_bad("move 0 " + word)
            self.assert_bad("set " + word + " 0")
            self.assert_bad("cons 0 0 " + word)

    def test_ranges(self):
        self.assertEqual(parse("move 19 0"), [("move", 19, 0)])
        for line in ("move 20 0", "move 0 20", "move -1 0", "set 20 0", "cons 0 0 20", "jump 20 0", "jump 0 2",
                     "jump 0 -1", "move 0 0; jump 0 -2", "head 100 0", "tail 0 999", "tail 0 1000"):
            self.assert_bad(line)
        self.assertEqual(parse("move 0 0; jump 0 -1; jump 0 1")[1:], [("jump", 0, -1), ("jump", 0, 1)])

    def test_other_lines(self):
        for line in (
            " ", ";", "; ", "move", "move 0", "move 0 0 0", "move 0 0;", "move 0 0; ", "; move 0 0", " move 0 0",
            "move 0 0 ", "move  0 0", "move 0  0", "move 0 0;move 0 0", "move 0 0 ; move 0 0", "move 0 0;  move 0 0",
            "move 0 0; ; move 0 0", "move 0 0\n", "\nmove 0 0", "move 0 0;\nmove 0 0", "move\t0 0", "Move 0 0",
            "MOVE 0 0", "copy 0 0", "0 0", "set 0", "set 0 1", "set 0 00", "set 0 10", "set 0 0 0", "set 0 5",
            "set 0 ", "set 0 -0", "set 0 x", "set 0 1000", "cons 0 0", "cons 0 0 0 0", "head 0", "tail 0", "jump 0",
            "jump 0 0 0", "('move', 0, 0)", "move,0,0", "move 0 0, move 0 0", "move 0 0: move 0 0", "0", "100", "\0",
        ):
            self.assert_bad(line)

    def test_results_are_new(self):
        found = parse(EACH_TEXT)
        found.clear()
        self.assertEqual(parse(EACH_TEXT), EACH)


if __name__ == "__main__":
    unittest.main()
