import copy
import random
import re
import unittest

import oracle
from claimed import KINDS, random_claim, replaced, shown_claims
from narcissus.claims import claim_text, is_claim, is_shown, read_claim
from narcissus.errors import BadClaim, NoCode, TooLarge
from narcissus.programs import code, decode
from narcissus.trees import number
from samples import FOREVER, HEAD, SWAP, all_different

LARGEST = number(99999)
TAIL_CODE = "111010101001000"
SMALL = (
    ("returns", [("tail", 0, 0)], "100", "0", 12), ("lasts", [("set", 0, "0")], "0", 0), ("never", [], "100", 3, 20),
    ("agree", [], [("set", 1, "0")], ["0", "100"], 7), ("agree", [], [], [], 10), ("knows", [], [("move", 0, 1)]),
    ("fixed", [("set", 0, "100")], []), ("together", [[], [("set", 0, "0")]], [[]]), ("together", [[]], [[], [], []]),
    ("defeats", [], [], [("move", 0, 0)], [], "0", 1), ("lies", [], [("set", 0, "0")], "100", "0", 1000000),
)


def slow_reading(line):
    """Return the claim whose text a line is, or None: point 33 once more, from the end of the line on."""
    words = re.split(" ", line)[::-1]
    if words[-1] not in KINDS:
        return None
    word = words.pop()
    try:
        claim = (word, *[taken(kind, words) for kind in KINDS[word]])
    except (IndexError, NoCode, AssertionError):
        return None
    return None if words else claim


def taken(kind, words):
    if kind in ("programs", "inputs"):
        many = taken("number", words)
        assert (1 <= many <= 8) if kind == "programs" else many <= 20
        return [taken("program" if kind == "programs" else "tree", words) for _ in range(many)]
    word = words.pop()
    if kind == "number":
        assert re.fullmatch("0|[1-9][0-9]*", word, re.ASCII) and int(word) <= 1000000
        return int(word)
    assert re.fullmatch("[01]+", word) and oracle.is_tree(word)
    return decode(word) if kind == "program" else word


class ClaimText(unittest.TestCase):
    def test_as_written(self):
        self.assertEqual(claim_text(("lasts", [("tail", 0, 0)], "100", 12)), f"lasts {TAIL_CODE} 100 12")
        self.assertEqual(claim_text(("returns", [], "0", "100", 0)), "returns 0 0 100 0")
        self.assertEqual(claim_text(("never", [], "100", 7, 1000000)), "never 0 100 7 1000000")
        self.assertEqual(claim_text(("agree", [], [], [], 5)), "agree 0 0 0 5")
        self.assertEqual(
            claim_text(("agree", [], [("tail", 0, 0)], ["0", "100", "0"], 10)), f"agree 0 {TAIL_CODE} 3 0 100 0 10"
        )
        self.assertEqual(claim_text(("knows", [("tail", 0, 0)], [])), f"knows {TAIL_CODE} 0")
        self.assertEqual(claim_text(("fixed", [], [("tail", 0, 0)])), f"fixed 0 {TAIL_CODE}")
        self.assertEqual(claim_text(("together", [[], [("tail", 0, 0)]], [[]])), f"together 2 0 {TAIL_CODE} 1 0")
        self.assertEqual(
            claim_text(("defeats", [], [("tail", 0, 0)], [], [], "10100", 3)), f"defeats 0 {TAIL_CODE} 0 0 10100 3"
        )
        self.assertEqual(claim_text(("lies", [("tail", 0, 0)], [], "0", "100", 3)), f"lies {TAIL_CODE} 0 0 100 3")

    def test_words(self):
        for claim in shown_claims().values():
            words = claim_text(claim).split(" ")
            self.assertEqual(words[0], claim[0])
            at = 1
            for kind, part in zip(KINDS[claim[0]], claim[1:]):
                if kind in ("programs", "inputs"):
                    self.assertEqual(words[at], str(len(part)))
                    at += 1
                else:
                    part = [part]
                expected = [code(item) if isinstance(item, list) else str(item) for item in part]
                self.assertEqual(words[at:at + len(part)], expected)
                at += len(part)
            self.assertEqual(at, len(words))

    def test_too_large(self):
        large = [("set", 0, number(99990)), ("move", 19, 19)]
        for program in (large, [("set", 0, LARGEST)]):
            for word, kinds in KINDS.items():
                claim = shown_claims()[word]
                for at, kind in enumerate(kinds, 1):
                    if kind in ("program", "programs"):
                        part = program if kind == "program" else [SWAP, program]
                        self.assertTrue(is_claim(replaced(claim, at, part)))
                        with self.assertRaises(TooLarge):
                            claim_text(replaced(claim, at, part))
        fits = [("set", 0, number(99990))]
        self.assertEqual(claim_text(("knows", fits, fits)), f"knows {code(fits)} {code(fits)}")
        self.assertEqual(claim_text(("returns", [], LARGEST, LARGEST, 1)), f"returns 0 {LARGEST} {LARGEST} 1")

    def test_arguments_stay_as_they_are(self):
        for claim in shown_claims().values():
            before = copy.deepcopy(claim)
            self.assertEqual(claim_text(claim), claim_text(claim))
            self.assertEqual(claim, before)


class ReadClaim(unittest.TestCase):
    def assert_bad(self, line):
        with self.assertRaises(BadClaim):
            read_claim(line)

    def assert_back(self, claim):
        self.assertTrue(is_claim(claim))
        line = claim_text(claim)
        found = read_claim(line)
        self.assertEqual(found, claim)
        self.assertIs(type(found), tuple)
        self.assertTrue(is_claim(found))
        self.assertEqual(claim_text(found), line)

    def test_back_and_forth(self):
        chance = random.Random(1)
        for claim in list(SMALL) + list(shown_claims().values()):
            self.assert_back(claim)
        for word in KINDS:
            for _ in range(40):
                self.assert_back(random_claim(chance, word))

    def test_shown_claims_stay_shown(self):
        for claim in shown_claims().values():
            self.assertIs(is_shown(read_claim(claim_text(claim))), True)

    def test_limits(self):
        fits = [("set", 0, number(99990))]
        for claim in (
            ("knows", fits, [("jump", 0, 1)] * 600), ("returns", [], LARGEST, "1" * 99999 + "0" * 100000, 1000000),
            ("agree", [], [], ["100"] * 20, 0), ("agree", [], [], [LARGEST], 0), ("together", [SWAP] * 8, [[]] * 8),
            ("together", [HEAD], [fits]), ("never", [], "0", 0, 1000000),
        ):
            self.assert_back(claim)
        self.assert_bad("returns 0 0 0 1000001")
        self.assert_bad("never 0 0 1000001 5")
        self.assert_bad("returns 0 0 0 " + "9" * 5000)
        self.assert_bad("agree 0 0 21" + " 0" * 21 + " 5")
        self.assert_bad("agree 0 0 22" + " 0" * 21 + " 5")
        self.assert_bad("together 9" + " 0" * 9 + " 1 0")
        self.assert_bad("together 1 0 9" + " 0" * 9)
        self.assert_bad("together 0 1 0")
        self.assert_bad("together 1 0 0")
        self.assert_bad("together 0 0")
        too_long = "10" * 100000 + "0"
        self.assert_bad(f"returns 0 {too_long} 0 1")
        self.assert_bad(f"returns 0 0 {too_long} 1")
        self.assert_bad(f"agree 0 0 1 {too_long} 1")
        self.assert_bad("knows 0 " + code([("set", 0, "0")])[:-1] + too_long)
        self.assertEqual(read_claim("knows 0 11010" + "100" + "0"), ("knows", [], [("set", 0, "100")]))
        self.assert_bad("knows 0 11010" + too_long + "0")
        self.assert_bad("knows 0 " + code([("jump", 0, 1)])[:-1] * 601 + "0")

    def test_numbers(self):
        self.assertEqual(read_claim("never 0 0 0 10"), ("never", [], "0", 0, 10))
        for number_word in (
            "", "00", "01", "010", "+1", "-1", "-0", "+0", "1.", "1.0", "1e3", "1_0", "0x1", "x", " ", "\t1", "1\n", "\u0661",
            "\u00b2", "1,000", "True", "None", "0000000", "0000001", "00000000001",
        ):
            for line in (
                f"never 0 0 {number_word} 10", f"never 0 0 1 {number_word}", f"returns 0 0 0 {number_word}",
                f"agree 0 0 {number_word} 0 5", f"together {number_word} 0 1 0", f"together 1 0 {number_word} 0",
            ):
                self.assert_bad(line)

    def test_trees_and_codes(self):
        for tree in ("", "1", "00", "10", "1000", "2", "x", "0\n", "\u0660", "0b0", "-0", "(0)", "100,"):
            for line in (
                f"returns 0 {tree} 0 1", f"returns 0 0 {tree} 1", f"lasts {tree} 0 1", f"knows {tree} 0",
                f"knows 0 {tree}", f"agree 0 0 1 {tree} 1", f"agree 0 0 2 0 {tree} 1", f"together 2 0 {tree} 1 0",
                f"together 1 0 1 {tree}", f"lies 0 0 {tree} 0 1", f"defeats 0 0 0 0 {tree} 1",
            ):
                self.assert_bad(line)
        # Trees that are no codes, though they are trees.
        for tree in ("100", "10100", "11000", "1100100", code([("jump", 0, 1)])[:-1] + "100", TAIL_CODE[:-1] + "100"):
            for line in (
                f"lasts {tree} 0 1", f"knows {tree} 0", f"knows 0 {tree}", f"fixed {tree} 0", f"together 1 {tree} 1 0",
                f"together 1 0 2 0 {tree}", f"lies 0 {tree} 0 0 1", f"defeats 0 0 0 {tree} 0 1", f"agree 0 {tree} 0 1",
            ):
                self.assert_bad(line)
            self.assertEqual(read_claim(f"lasts 0 {tree} 1"), ("lasts", [], tree, 1))
        self.assert_bad("lasts " + oracle.code([("move", 0, 20)]) + " 0 1")
        self.assert_bad("lasts " + oracle.code([("move", 20, 0)]) + " 0 1")
        self.assert_bad("lasts " + oracle.code([("jump", 0, 2)]) + " 0 1")

    def test_words(self):
        for word in ("", "return", "Returns", "RETURNS", "returns\n", "claim", "0", "returns,", "last"):
            self.assert_bad(f"{word} 0 0 0 1")
        for line in ("", " ", "  ", "0", "returns", "returns ", "lasts", "\n", "knows", "together", "agree 0 0", "agree"):
            self.assert_bad(line)
        for word, kinds in KINDS.items():
            line = " ".join([word] + ["1 0" if kind == "programs" else "0" for kind in kinds])
            self.assertEqual(read_claim(line)[0], word)
            for other in KINDS:
                self.assert_bad(f"{other} {line}")
                self.assert_bad(f"{line} {other}")

    def test_one_word_more_or_less(self):
        for claim in shown_claims().values():
            words = claim_text(claim).split(" ")
            self.assertEqual(read_claim(" ".join(words)), claim)
            for at in range(len(words)):
                self.assert_bad(" ".join(words[:at] + words[at + 1:]))
            for at in range(len(words) + 1):
                for word in ("", "\n", "x"):
                    self.assert_bad(" ".join(words[:at] + [word] + words[at:]))
            for line in (" ".join(words), "  ".join(words), "\t".join(words), ", ".join(words), "\n".join(words)):
                for start, end in ((" ", ""), ("", " "), (" ", " "), ("\n", ""), ("", "\n"), ("", "\r"), ("", " 0"), ("", "  ")):
                    self.assert_bad(start + line + end)

    def test_lines_with_one_sign_changed(self):
        chance = random.Random(2)
        bad = good = 0
        for claim in SMALL:
            line = claim_text(claim)
            self.assertEqual(slow_reading(line), claim)
            for at in range(len(line) + 1):
                changed = [line[:at] + sign + line[at:] for sign in " 01-+2\n\ts"]
                changed += [line[:at] + sign + line[at + 1:] for sign in " 0129_"]
                changed += [line[:at] + line[at + 1:], line[:at], line[at:], line[:at] + line[at:at + 4] + line[at:]]
                for other in changed:
                    expected = slow_reading(other)
                    if expected is None:
                        bad += 1
                        self.assert_bad(other)
                    else:
                        good += 1
                        self.assertEqual(read_claim(other), expected)
                        self.assertTrue(is_claim(expected))
                        self.assertEqual(claim_text(expected), other)
        self.assertGreater(bad, 2000)
        self.assertGreater(good, 100)
        for _ in range(2000):
            words = claim_text(chance.choice(SMALL)).split(" ") + claim_text(chance.choice(SMALL)).split(" ")
            other = " ".join([chance.choice(words[:9])] + [chance.choice(words) for _ in range(chance.randrange(7))])
            expected = slow_reading(other)
            if expected is None:
                self.assert_bad(other)
            else:
                self.assertEqual(read_claim(other), expected)

    def test_results_are_new(self):
        line = claim_text(("together", [SWAP, SWAP], [SWAP, FOREVER]))
        first = read_claim(line)
        second = read_claim(line)
        self.assertTrue(all_different([*first[1:], *second[1:], *first[1], *second[1], *first[2], *second[2]]))
        first[1][0].clear()
        first[1].append([])
        first[2].clear()
        self.assertEqual(second, ("together", [SWAP, SWAP], [SWAP, FOREVER]))
        self.assertEqual(read_claim(line), second)
        line = "agree 0 0 2 0 100 5"
        first = read_claim(line)
        first[1].append(("head", 0, 0))
        first[3].append("100")
        self.assertEqual(read_claim(line), ("agree", [], [], ["0", "100"], 5))


if __name__ == "__main__":
    unittest.main()
