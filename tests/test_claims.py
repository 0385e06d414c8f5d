import copy
import itertools
import random
import unittest

import oracle
from claimed import CONSTANT, KINDS, random_claim, replaced, shown_claims
from narcissus.building import choice, constant, loop
from narcissus.claims import is_claim, is_shown
from narcissus.defeats import defeat, liar
from narcissus.knowing import bearer, fixed_point, knowing, myself
from narcissus.order import padded
from narcissus.programs import code, is_program, parse
from narcissus.rings import ring, together
from narcissus.running import run
from narcissus.trees import cons, number
from samples import (
    ADD_1, DOUBLE, END_ON_LEAF, END_ON_PAIR, FOREVER, HEAD, INPUTS, NARROW_REVERSE, SAMPLES, SWAP, TAIL, ended,
    random_program, wide,
)

LARGEST = number(99999)
MOST = 1000000

# For each kind, values that are of it and values that are not.
GOOD = {
    "program": [[], SWAP, wide(20), [("move", 0, 0)] * 600, [("set", 0, LARGEST)], parse("jump 0 1; jump 0 -1")],
    "tree": ["0", "100", LARGEST, "1" * 99999 + "0" * 100000],
    "number": [0, 1, 2, 999999, 1000000],
    "programs": [[[]], [SWAP], [SWAP] * 2, [[]] * 8, [SWAP, [("move", 0, 0)] * 600]],
    "inputs": [[], ["0"], ["100"] * 19, ["0"] * 20, [LARGEST, "0"]],
}
NO_PROGRAMS = [
    None, 0, True, "", "0", "move 0 0", (), tuple(SWAP), [()], [[]], [None], [("move", 0)], [("move", 0, 0, 0)],
    [["move", 0, 0]], [("move", 0, 20)], [("move", -1, 0)], [("move", True, 0)], [("move", 0, False)], [("goto", 0, 0)],
    [("set", 0, "")], [("set", 0, "1")], [("set", 0, 0)], [("jump", 0, 2)], [("jump", 0, -1)], [("jump", 0, "0")],
    [("jump", 0, True)], [("move", 0, 0)] * 601, [("set", 0, LARGEST), ("set", 1, "100")], ("move", 0, 0),
]
NO_TREES = [
    None, 0, 1, 100, True, False, "", "1", "10", "00", "0100", "1000", "2", "10 0", " 0", "0 ", "0\n", "x", (), [],
    ["0"], ("0",), "\u0660", "10" * 100000 + "0",
]
BAD = {
    "program": NO_PROGRAMS,
    "tree": NO_TREES,
    "number": [-1, -1000000, 1000001, 10 ** 30, True, False, None, "0", "1", "", [], [1], (), (1,)],
    "programs": [
        None, 1, True, "", "0", [], (), ([],), (SWAP, SWAP), SWAP, [None], ["0"], [[]] * 9, [SWAP] * 9, [SWAP] * 20,
    ] + [[SWAP, value] for value in NO_PROGRAMS] + [[value] for value in NO_PROGRAMS],
    "inputs": [None, 0, 1, True, "", "0", (), ("0",), ("0", "100"), ["0"] * 21, ["0"] * 30, [[]], ["0", ["0"]]]
    + [["0", value] for value in NO_TREES] + [[value] for value in NO_TREES],
}


class IsClaim(unittest.TestCase):
    def assert_no_claim(self, value):
        self.assertIs(is_claim(value), False)

    def test_each_form(self):
        chance = random.Random(1)
        for word in KINDS:
            self.assertIs(is_claim(shown_claims()[word]), True)
            for _ in range(30):
                self.assertIs(is_claim(random_claim(chance, word)), True)

    def test_each_good_part(self):
        for word, kinds in KINDS.items():
            claim = shown_claims()[word]
            for at, kind in enumerate(kinds, 1):
                for part in GOOD[kind]:
                    self.assertIs(is_claim(replaced(claim, at, part)), True, (word, at))

    def test_each_bad_part(self):
        for word, kinds in KINDS.items():
            claim = shown_claims()[word]
            for at, kind in enumerate(kinds, 1):
                for part in BAD[kind]:
                    self.assert_no_claim(replaced(claim, at, part))

    def test_claims_that_are_not_shown(self):
        for claim in (
            ("never", FOREVER, "0", 2, 1), ("never", FOREVER, "0", 1, 1), ("never", [], "0", 5, 0),
            ("returns", SWAP, "0", "100", 0), ("knows", SWAP, SWAP), ("fixed", [], []), ("together", [SWAP], [[], []]),
            ("together", [[]] * 8, [[]]), ("lies", HEAD, HEAD, "0", "0", 0), ("knows", wide(20), wide(20)),
        ):
            self.assertIs(is_claim(claim), True)

    def test_number_of_parts(self):
        for word, kinds in KINDS.items():
            claim = shown_claims()[word]
            for at in range(1, len(claim)):
                self.assert_no_claim(claim[:at])
                self.assert_no_claim(claim[:at] + claim[at + 1:])
                self.assert_no_claim(claim[:at] + (claim[at],) + claim[at:])
            for part in (None, 0, 1, "0", "", [], SWAP, ["0"], [[]], True):
                self.assert_no_claim(claim + (part,))
            self.assert_no_claim(claim[1:])

    def test_words(self):
        words = (
            "", "return", "returns ", " returns", "Returns", "RETURNS", "last", "0", "claim", None, 0, 1, True, (), [],
            ("returns",), ["returns"], ["lasts", "never"], "lasts never",
        )
        for claim in shown_claims().values():
            for word in words:
                self.assert_no_claim(replaced(claim, 0, word))
            for word, kinds in KINDS.items():
                self.assertIs(is_claim(replaced(claim, 0, word)), kinds == KINDS[claim[0]])

    def test_other_values(self):
        for value in (None, True, False, 0, 1, "", "0", "returns", [], (), [[]], ((),), (None,), ("returns",), ((), ())):
            self.assert_no_claim(value)
        for claim in shown_claims().values():
            self.assert_no_claim(list(claim))
            self.assert_no_claim((claim,))
            self.assert_no_claim([claim])
            self.assert_no_claim((claim[0], claim[1:]))
            self.assert_no_claim((claim[0], list(claim[1:])))

    def test_arguments_stay_as_they_are(self):
        for claim in shown_claims().values():
            before = copy.deepcopy(claim)
            is_claim(claim)
            self.assertEqual(claim, before)


class Shown(unittest.TestCase):
    def assert_shown(self, *claim):
        self.assertTrue(is_claim(claim))
        self.assertIs(is_shown(claim), True)

    def assert_not_shown(self, *claim):
        self.assertTrue(is_claim(claim))
        self.assertIs(is_shown(claim), False)

    def assert_only_this(self, claim, at):
        """Hold that a claim is shown, but not with one instruction of the program in that part changed."""
        self.assert_shown(*claim)
        program = claim[at]
        for index in range(len(program)):
            changed = program[:index] + [("move", 19, 19)] + program[index + 1:]
            if is_program(changed):
                self.assert_not_shown(*replaced(claim, at, changed))
        self.assert_not_shown(*replaced(claim, at, []))
        for changed in (program[:-1], program + [("move", 0, 0)], [("move", 0, 0)] + program):
            if is_program(changed):
                self.assert_not_shown(*replaced(claim, at, changed))

    def assert_from(self, claim, least):
        """Hold that a claim is shown exactly with at least so many steps, its last part."""
        for steps in (least, least + 1, least + 2, least + 1000, MOST):
            self.assert_shown(*claim[:-1], steps)
        for steps in {0, least // 2, least - 2, least - 1}:
            if 0 <= steps < least:
                self.assert_not_shown(*claim[:-1], steps)


class Runs(Shown):
    """Claims about runs: returns, lasts, never and agree."""

    def test_returns_and_lasts_around_the_end(self):
        chance = random.Random(2)
        ends = 0
        for _ in range(150):
            program = random_program(chance, chance.randrange(7), chance.choice([2, 3, 4]))
            x = chance.choice(INPUTS)
            expected = ended(program, x, 12)
            if expected is None:
                for k in range(13):
                    self.assert_shown("lasts", program, x, k)
                    self.assert_not_shown("returns", program, x, chance.choice(INPUTS), k)
                continue
            ends += 1
            result, steps = expected
            self.assert_from(("returns", program, x, result, 0), steps)
            for k in range(steps + 3):
                self.assertIs(is_shown(("lasts", program, x, k)), k < steps)
            for other in INPUTS:
                if other != result:
                    self.assert_not_shown("returns", program, x, other, steps)
                    self.assert_not_shown("returns", program, x, other, MOST)
        self.assertGreater(ends, 50)
        self.assertLess(ends, 145)

    def test_returns(self):
        self.assert_from(("returns", SWAP, "11000", "10100", 0), 3)
        self.assert_from(("returns", [], "100", "100", 0), 0)
        self.assert_from(("returns", [], LARGEST, LARGEST, 0), 0)
        self.assert_from(("returns", wide(20), "100", "100", 0), 1)
        self.assert_from(("returns", parse("tail 0 0; jump 0 -1"), number(500), "0", 0), 1000)
        self.assert_not_shown("returns", [], "100", "0", 5)
        self.assert_not_shown("returns", SWAP, "10100", "10100", 3)
        self.assert_not_shown("returns", FOREVER, "0", "0", MOST)

    def test_lasts(self):
        for k in (0, 1, 2, 1000, MOST):
            self.assert_shown("lasts", FOREVER, "100", k)
            self.assert_not_shown("lasts", [], "100", k)
        self.assert_shown("lasts", parse("tail 0 0; jump 0 -1"), number(500), 999)
        self.assert_not_shown("lasts", parse("tail 0 0; jump 0 -1"), number(500), 1000)

    def test_steps_that_are_too_large(self):
        # One step at first, then two for each time that the tree is doubled: 1, 3, 7, ... 131,071 characters.
        for k in range(60):
            self.assertIs(is_shown(("lasts", DOUBLE, "0", k)), k <= 33)
            self.assert_not_shown("returns", DOUBLE, "0", "0", k)
            self.assert_not_shown("never", DOUBLE, "0", 0, k)
        at_once = parse("cons 0 0 0")
        self.assert_shown("lasts", at_once, LARGEST, 0)
        for k in (1, 2, 100):
            self.assert_not_shown("lasts", at_once, LARGEST, k)
            self.assert_not_shown("returns", at_once, LARGEST, LARGEST, k)
            self.assert_not_shown("agree", at_once, at_once, [LARGEST], k)
            self.assert_not_shown("agree", at_once, at_once, ["0", LARGEST], k)
        # The state comes back before a step is too large, but the later state is behind that step.
        late = parse("cons 0 0 0; cons 0 0 0; move 0 0; move 0 0")
        self.assert_not_shown("never", late, number(40000), 0, 4)

    def test_never_against_states(self):
        chance = random.Random(3)
        shown = 0
        for _ in range(250):
            program = random_program(chance, chance.randrange(1, 5), 2)
            x = chance.choice(INPUTS[:4])
            states = oracle.states(program, x, 9)
            for k, m in itertools.product(range(10), repeat=2):
                expected = k < m < len(states) and states[k] == states[m]
                self.assertIs(is_shown(("never", program, x, k, m)), expected)
                shown += expected
        self.assertGreater(shown, 500)

    def test_never(self):
        self.assert_shown("never", FOREVER, "0", 1, 2)
        self.assert_shown("never", FOREVER, "0", 1, MOST)
        self.assert_shown("never", FOREVER, "0", 999999, MOST)
        for k, m in ((0, 1), (0, 2), (1, 1), (2, 2), (2, 1), (MOST, 1), (MOST, MOST), (0, 0)):
            self.assert_not_shown("never", FOREVER, "0", k, m)
        # Two states in turn.
        turns = parse("jump 0 1; jump 0 -1")
        for k, m in itertools.product(range(8), repeat=2):
            self.assertIs(is_shown(("never", turns, "100", k, m)), k < m and (m - k) % 2 == 0)
            self.assert_not_shown("never", turns, "0", k, m)
        # A state comes back that is not the first one.
        count = parse("set 1 10101010100; tail 1 1; jump 1 -1; jump 0 0")
        states = oracle.states(count, "100", 20)
        for k, m in itertools.product(range(20), repeat=2):
            self.assertIs(is_shown(("never", count, "100", k, m)), k < m and states[k] == states[m])
        # Six steps each time around; the register 1 is only the leaf at first.
        for k, m, expected in ((6, 12, True), (5, 11, True), (6, 18, True), (0, 6, False), (5, 12, False), (6, 6, False)):
            self.assertIs(is_shown(("never", loop([], constant("100")), "100", k, m)), expected)
        self.assert_shown("never", liar(constant("100")), "0", 1000, 1001)

    def test_never_for_runs_that_end(self):
        for program in ([], SWAP, [("move", 0, 0)] * 3, [("set", 0, "0")], END_ON_LEAF):
            for k, m in itertools.product((0, 1, 2, 3, 4, 5, 9, 1000, MOST), repeat=2):
                self.assert_not_shown("never", program, "0", k, m)

    def test_never_compares_all_of_the_state(self):
        # The same index, and all registers but one the same.
        for r in range(20):
            other = (r + 1) % 20
            grow = [("set", other, "100"), ("cons", r, r, 19 if r != 19 else 0), ("jump", other, -1)]
            self.assertIs(is_shown(("never", grow, "0", 1, 3)), False)
            self.assertIs(is_shown(("never", grow, "0", 3, 5)), False)
            shrink = [("set", other, "100"), ("set", r, number(3)), ("tail", r, r), ("jump", other, -1)]
            self.assertEqual([is_shown(("never", shrink, "0", k, k + 2)) for k in (2, 4, 6, 8)], [False] * 3 + [True])
        # All registers the same, but another index.
        for k in range(5):
            self.assert_not_shown("never", [("move", 0, 0)] * 9, "0", k, k + 1)

    def test_agree(self):
        self.assert_from(("agree", SWAP, padded(SWAP, 2), list(INPUTS), 0), 5)
        self.assert_from(("agree", padded(SWAP, 7), SWAP, ["0"], 0), 10)
        self.assert_from(("agree", HEAD, TAIL, ["0", "100", "1100100"], 0), 1)
        self.assert_from(("agree", HEAD, TAIL, ["0"] * 20, 0), 1)
        for inputs in (["11000"], ["0", "11000"], ["11000", "0"], ["0"] * 19 + ["10100"], ["10100"] + ["0"] * 19):
            for k in (0, 1, 1000):
                self.assert_not_shown("agree", HEAD, TAIL, inputs, k)
        slow = parse("tail 0 0; jump 0 -1")
        self.assert_from(("agree", slow, constant("0"), [number(n) for n in range(20)], 0), 38)
        self.assert_from(("agree", constant("0"), slow, [number(n) for n in range(19, -1, -1)], 0), 38)

    def test_agree_without_inputs(self):
        for first, second in ((HEAD, TAIL), (FOREVER, FOREVER), ([], wide(20)), (SWAP, DOUBLE)):
            for k in (0, 1, MOST):
                self.assert_shown("agree", first, second, [], k)

    def test_agree_where_nothing_is_returned(self):
        for first, second in ((FOREVER, FOREVER), (FOREVER, []), ([], FOREVER), (END_ON_LEAF, [])):
            self.assert_not_shown("agree", first, second, ["100"], 1000)
            self.assert_not_shown("agree", first, second, ["0", "100"], 1000)
        self.assert_shown("agree", END_ON_LEAF, [], ["0"], 1)
        self.assert_shown("agree", END_ON_PAIR, [], ["100", "11000"], 2)
        self.assert_not_shown("agree", END_ON_PAIR, [], ["100", "0", "11000"], 1000)

    def test_agree_against_runs(self):
        chance = random.Random(4)
        shown = 0
        for _ in range(300):
            first, second = [random_program(chance, chance.randrange(4), 2) for _ in range(2)]
            inputs = [chance.choice(INPUTS) for _ in range(chance.randrange(3))]
            for k in range(5):
                results = [[ended(program, x, k) for x in inputs] for program in (first, second)]
                expected = all(a and b and a[0] == b[0] for a, b in zip(*results))
                self.assertIs(is_shown(("agree", first, second, inputs, k)), expected)
                shown += expected
        self.assertGreater(shown, 300)
        self.assertLess(shown, 1200)


class Made(Shown):
    """Claims about programs that are made: knows, fixed, together, defeats and lies."""

    def test_knows(self):
        for q in ([], SWAP, FOREVER, NARROW_REVERSE, wide(16)):
            self.assert_only_this(("knows", q, knowing(q)), 2)
            self.assert_not_shown("knows", q + [("move", 0, 0)], knowing(q))
            self.assert_not_shown("knows", knowing(q), q)
            for e in (bearer(q), fixed_point(q), liar(q), together([q])[0], myself(), q):
                self.assert_not_shown("knows", q, e)
        self.assert_not_shown("knows", SWAP, knowing(HEAD))

    def test_fixed(self):
        for t in (CONSTANT, [], FOREVER, wide(16)):
            self.assert_only_this(("fixed", t, fixed_point(t)), 2)
            self.assert_not_shown("fixed", t + [("move", 0, 0)], fixed_point(t))
            for e in (bearer(t), knowing(t), liar(t), myself(), t):
                self.assert_not_shown("fixed", t, e)

    def test_together(self):
        for programs in ([SWAP], [SWAP, HEAD], [[], [], TAIL], [HEAD, FOREVER, wide(16)] + [[]] * 5):
            others = together(programs)
            self.assert_shown("together", programs, others)
            for at, e in enumerate(others):
                for index in range(len(e)):
                    changed = e[:index] + [("move", 19, 19)] + e[index + 1:]
                    if is_program(changed):
                        self.assert_not_shown("together", programs, others[:at] + [changed] + others[at + 1:])
                self.assert_not_shown("together", programs[:at] + [ADD_1] + programs[at + 1:], others)
                if len(others) > 1:
                    self.assert_not_shown("together", programs, others[:at] + others[at + 1:])
                    self.assert_not_shown("together", programs[:at] + programs[at + 1:], others)
            if len(others) < 8:
                self.assert_not_shown("together", programs, others + [others[0]])
                self.assert_not_shown("together", programs + [[]], others)
        others = together([SWAP, HEAD])
        self.assert_not_shown("together", [SWAP, HEAD], others[::-1])
        self.assert_not_shown("together", [HEAD, SWAP], others)
        self.assert_not_shown("together", [SWAP, HEAD], [together([SWAP])[0], together([HEAD])[0]])
        self.assert_not_shown("together", [SWAP, HEAD], ring(2))

    def test_defeats(self):
        for d, y in ((constant("0"), "0"), (constant("11000"), "11000"), (parse("move 0 1"), "0")):
            for p, q in ((SWAP, HEAD), (HEAD, SWAP), ([], FOREVER)):
                e = defeat(d, p, q)
                claim = ("defeats", d, p, q, e, y, 1)
                self.assert_from(claim, 1)
                self.assert_only_this(claim, 4)
                self.assert_not_shown("defeats", d, q, p, e, y, 1)
                self.assert_not_shown("defeats", d, p + ADD_1, q, e, y, 1)
                self.assert_not_shown("defeats", d, p, q + ADD_1, e, y, 1)
                self.assert_not_shown("defeats", d + [("move", 0, 0)], p, q, e, y, 9)
                for other in ("0", "100", "11000", "10100"):
                    self.assertIs(is_shown(replaced(claim, 5, other)), other == y)

    def test_defeats_by_what_is_said_of_the_code(self):
        for d in ([], HEAD, TAIL, SWAP, NARROW_REVERSE, parse("head 0 0; head 0 0; head 0 0"), choice(HEAD, [], TAIL)):
            e = defeat(d, SWAP, HEAD)
            y, steps = run(d, code(e), 1000)
            self.assert_from(("defeats", d, SWAP, HEAD, e, y, 0), steps)
            other = "0" if y != "0" else "100"
            self.assert_not_shown("defeats", d, SWAP, HEAD, e, other, steps)
            self.assert_not_shown("defeats", d, SWAP, HEAD, e, other, MOST)
        # What the decider returns on the code of another program is of no use.
        e = defeat([], SWAP, HEAD)
        self.assert_not_shown("defeats", [], SWAP, HEAD, e, code(SWAP), 10)
        self.assert_not_shown("defeats", [], SWAP, HEAD, e, cons(code(e), "0"), 10)

    def test_lies(self):
        for h, x, y in ((TAIL, "0", "0"), (TAIL, "100", "100"), (constant("0"), "100", "0"), (constant("100"), "0", "100")):
            e = liar(h)
            claim = ("lies", h, e, x, y, 1)
            self.assert_from(claim, 1)
            self.assert_only_this(claim, 2)
            self.assert_not_shown("lies", h + [("move", 0, 0)], e, x, y, 9)
            for other in ("0", "100", "11000", "10100"):
                self.assertIs(is_shown(replaced(claim, 4, other)), other == y)
        self.assert_not_shown("lies", TAIL, liar(TAIL), "0", "100", 1)
        self.assert_not_shown("lies", TAIL, liar(HEAD), "100", "100", 1)
        for h in ([], HEAD, SWAP, ADD_1, NARROW_REVERSE, parse("head 0 0; head 0 0")):
            for x in INPUTS[:4]:
                e = liar(h)
                y, steps = run(h, cons(code(e), x), 10000)
                self.assert_from(("lies", h, e, x, y, 0), steps)
                self.assert_not_shown("lies", h, e, x, cons("0", y), steps)

    def test_runs_that_do_not_end(self):
        for program in (FOREVER, END_ON_LEAF):
            for y in ("0", "100"):
                self.assert_not_shown("defeats", program, SWAP, HEAD, defeat(program, SWAP, HEAD), y, 10000)
                self.assert_not_shown("lies", program, liar(program), "100", y, 10000)

    def test_errors(self):
        # Too wide or too large programs are known by no program, whatever is put into its place.
        many = [("move", 0, 0)] * 600
        large = [("set", 0, number(60000))]
        for program in (wide(17), wide(20), many, large, [("set", 0, LARGEST)]):
            for e in ([], program, knowing([]), SWAP):
                self.assert_not_shown("knows", program, e)
                self.assert_not_shown("fixed", program, e)
                self.assert_not_shown("together", [program], [e])
                self.assert_not_shown("together", [SWAP, program], [e, e])
                self.assert_not_shown("lies", program, e, "0", "0", 1000)
                for given in ((program, [], []), ([], program, []), ([], [], program)):
                    self.assert_not_shown("defeats", *given, e, "0", 1000)

    def test_steps_that_are_too_large(self):
        # Twice the code is as large as a tree may be, but not four times.
        d = parse("cons 0 0 0; cons 0 0 0; cons 0 0 0; head 0 0") + [("set", 1, number(8000))]
        e = defeat(d, SWAP, HEAD)
        self.assertGreater(len(code(e)), 30000)
        self.assert_not_shown("defeats", d, SWAP, HEAD, e, "0", 1000)
        e = liar(d)
        self.assert_not_shown("lies", d, e, "0", "0", 1000)
        # The tree of the code and the input is too large itself.
        e = liar([("set", 0, "0")])
        size = len(code(e))
        x = number((199998 - size) // 2)
        self.assertLessEqual(1 + size + len(x), 200000)
        self.assert_shown("lies", [("set", 0, "0")], e, x, "0", 1)
        self.assert_not_shown("lies", [("set", 0, "0")], e, cons("0", x), "0", 1)
        self.assert_not_shown("lies", [("set", 0, "0")], e, LARGEST, "0", 1)


class WhatIsShown(Shown):
    """What shown claims say is true (point 32)."""

    def test_more_steps(self):
        chance = random.Random(5)
        for word in ("returns", "agree", "defeats", "lies"):
            claim = shown_claims()[word]
            for steps in [claim[-1]] + [chance.randrange(claim[-1], MOST) for _ in range(10)] + [MOST]:
                self.assert_shown(*claim[:-1], steps)

    def test_about_runs(self):
        chance = random.Random(6)
        programs = list(SAMPLES) + [random_program(chance, chance.randrange(6), 2) for _ in range(80)]
        kinds = {"returns": 0, "lasts": 0, "never": 0}
        for program in programs:
            for x in INPUTS[:3]:
                claims = [("returns", program, x, y, k) for y in ("0", "100", x) for k in (1, 4, 9)]
                claims += [("lasts", program, x, k) for k in (1, 4, 9)]
                claims += [("never", program, x, k, m) for k in range(5) for m in (k + 1, k + 2, 9)]
                self.assert_true([claim for claim in claims if is_shown(claim)], ended(program, x, 2000), kinds)
        self.assertGreater(min(kinds.values()), 50)

    def assert_true(self, shown, expected, kinds):
        """Hold claims about one run against how it ends, and against each other."""
        for claim in shown:
            kinds[claim[0]] += 1
            if claim[0] == "returns":
                self.assertEqual(claim[3], expected[0])
                self.assertLessEqual(expected[1], claim[4])
            elif claim[0] == "lasts":
                self.assertTrue(expected is None or expected[1] > claim[3])
            else:
                self.assertIsNone(expected)
        words = {claim[0] for claim in shown}
        self.assertFalse({"returns", "never"} <= words)
        self.assertLessEqual(len({claim[3] for claim in shown if claim[0] == "returns"}), 1)
        most_lasting = max([claim[3] for claim in shown if claim[0] == "lasts"], default=-1)
        least_returning = min([claim[4] for claim in shown if claim[0] == "returns"], default=MOST)
        self.assertLess(most_lasting, least_returning)

    def test_about_agreeing(self):
        chance = random.Random(7)
        for _ in range(200):
            first, second = [random_program(chance, chance.randrange(4), 2) for _ in range(2)]
            inputs = [chance.choice(INPUTS) for _ in range(2)]
            if is_shown(("agree", first, second, inputs, 20)):
                for x in inputs:
                    self.assertEqual(run(first, x, 20)[0], run(second, x, 20)[0])

    def test_about_defeats(self):
        chance = random.Random(8)
        sides = []
        for _ in range(150):
            d = random_program(chance, chance.randrange(6), 3)
            p, q = [random_program(chance, chance.randrange(5), 3) for _ in range(2)]
            e = defeat(d, p, q)
            said = ended(d, code(e), 100)
            if said is None:
                continue
            self.assert_shown("defeats", d, p, q, e, said[0], 100)
            for x in INPUTS[:4]:
                expected = ended(q if said[0] != "0" else p, x, 100)
                found = ended(e, x, 400)
                if expected is not None:
                    self.assertEqual(found[0], expected[0])
            sides.append(said[0] != "0")
        self.assertGreater(min(sides.count(True), sides.count(False)), 10)

    def test_about_lies(self):
        chance = random.Random(9)
        sides = []
        for _ in range(150):
            h = random_program(chance, chance.randrange(6), 3)
            x = chance.choice(INPUTS)
            e = liar(h)
            said = ended(h, cons(code(e), x), 100)
            if said is None:
                continue
            self.assert_shown("lies", h, e, x, said[0], 100)
            self.assertEqual(ended(e, x, 1000) is not None, said[0] == "0")
            sides.append(said[0] == "0")
        self.assertGreater(min(sides.count(True), sides.count(False)), 10)

    def test_what_is_no_claim_is_not_shown(self):
        one = knowing([("move", 1, 0)])
        true = [("move", True, 0)]
        self.assertTrue(is_shown(("knows", [("move", 1, 0)], one)))
        for value in (
            ("knows", true, one), ("returns", [], "0", "0", True), ("lasts", FOREVER, "0", True), ("returns", [], "0", "0", -1),
            ("never", FOREVER, "0", True, 2), ("agree", [], [], ("0",), 0), ("knows", [], knowing([]), 0), (), None,
        ):
            self.assertIs(is_shown(value), False)

    def test_no_effects(self):
        claims = shown_claims()
        for claim in list(claims.values()) + [replaced(claim, 1, [FOREVER]) for claim in [claims["together"]]]:
            before = copy.deepcopy(claim)
            first = is_shown(claim)
            self.assertEqual(claim, before)
            self.assertIs(is_shown(claim), first)
        for claim in claims.values():
            self.assertIs(is_shown(claim), True)


if __name__ == "__main__":
    unittest.main()
