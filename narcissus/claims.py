"""What is claimed of programs, with the evidence for it."""

from narcissus.defeats import defeat, liar
from narcissus.errors import BadClaim, NarcissusError, NoCode, OutOfSteps
from narcissus.knowing import fixed_point, knowing
from narcissus.programs import code, decode, is_program
from narcissus.rings import MOST_RING, together
from narcissus.running import after, run
from narcissus.trees import cons, is_tree

MOST_NUMBER = 1000000
MOST_INPUTS = 20

# What the parts behind each word are: p a program, t a tree, n a number, r a ring of programs, i inputs.
FORMS = {
    "returns": "pttn",
    "lasts": "ptn",
    "never": "ptnn",
    "agree": "ppin",
    "knows": "pp",
    "fixed": "pp",
    "together": "rr",
    "defeats": "pppptn",
    "lies": "ppttn",
}

# What the items of each kind of list are.
ITEMS = {"r": "p", "i": "t"}


def is_claim(value):
    """Tell whether a value is a claim."""
    if not isinstance(value, tuple) or len(value) == 0:
        return False
    word = value[0]
    if not isinstance(word, str) or word not in FORMS:
        return False
    form = FORMS[word]
    if len(value) != 1 + len(form):
        return False
    return all([_fits(kind, part) for kind, part in zip(form, value[1:])])


def _fits(kind, part):
    """Tell whether a value is a part of this kind."""
    if kind == "p":
        return is_program(part)
    if kind == "t":
        return is_tree(part)
    if kind == "n":
        return isinstance(part, int) and not isinstance(part, bool) and 0 <= part <= MOST_NUMBER
    if not isinstance(part, list) or not _may_have(kind, len(part)):
        return False
    return all([_fits(ITEMS[kind], item) for item in part])


def _may_have(kind, many):
    """Tell whether a list of this kind may have so many items."""
    if kind == "r":
        return 1 <= many <= MOST_RING
    return many <= MOST_INPUTS


# Each form has a function that takes the parts of a claim and tells whether it is shown; its errors mean no.

def _shows_returns(program, x, result, steps):
    return run(program, x, steps)[0] == result


def _shows_lasts(program, x, steps):
    try:
        run(program, x, steps)
    except OutOfSteps:
        return True
    return False


def _shows_never(program, x, early, late):
    if early >= late:
        return False
    state, done = after(program, x, early)
    # A run that has ended stays as it is, too, but then no further step was done.
    return done == early and after(program, x, late) == (state, late)


def _shows_agree(first, second, inputs, steps):
    return all(run(first, x, steps)[0] == run(second, x, steps)[0] for x in inputs)


def _shows_knows(program, knower):
    return knower == knowing(program)


def _shows_fixed(program, point):
    return point == fixed_point(program)


def _shows_together(programs, others):
    return others == together(programs)


def _shows_defeats(decider, yes, no, winner, result, steps):
    return winner == defeat(decider, yes, no) and run(decider, code(winner), steps)[0] == result


def _shows_lies(program, winner, x, result, steps):
    return winner == liar(program) and run(program, cons(code(winner), x), steps)[0] == result


CHECKS = {
    "returns": _shows_returns,
    "lasts": _shows_lasts,
    "never": _shows_never,
    "agree": _shows_agree,
    "knows": _shows_knows,
    "fixed": _shows_fixed,
    "together": _shows_together,
    "defeats": _shows_defeats,
    "lies": _shows_lies,
}


def is_shown(claim):
    """Tell whether the evidence of a claim holds."""
    # What is no claim says nothing, so it is not shown: True would equal 1 below.
    if not is_claim(claim):
        return False
    word, *parts = claim
    check = CHECKS[word]
    try:
        return check(*parts)
    except NarcissusError:
        return False


def claim_text(claim):
    """Return the text of a claim."""
    words = [claim[0]]
    for kind, part in zip(FORMS[claim[0]], claim[1:]):
        words.extend(_words_of(kind, part))
    return " ".join(words)


def _words_of(kind, part):
    """Return the words of a part of this kind."""
    if kind == "p":
        return [code(part)]
    if kind not in ITEMS:
        return [str(part)]
    words = [str(len(part))]
    for item in part:
        words.extend(_words_of(ITEMS[kind], item))
    return words


def read_claim(line):
    """Return the claim whose text the line is."""
    words = line.split(" ")
    if words[0] not in FORMS:
        raise BadClaim("there is no such claim")
    claim = [words[0]]
    at = 1
    for kind in FORMS[words[0]]:
        part, at = _read_part(kind, words, at)
        claim.append(part)
    if at < len(words):
        raise BadClaim("there is a part too many")
    return tuple(claim)


def _read_part(kind, words, at):
    """Return the part of this kind that begins at an index of the words, and the index behind it."""
    if at == len(words):
        raise BadClaim("there is a part too few")
    word = words[at]
    if kind == "p":
        return _read_program(word), at + 1
    if kind == "t":
        return _read_tree(word), at + 1
    if kind == "n":
        return _read_number(word), at + 1
    many = _read_number(word)
    if not _may_have(kind, many):
        raise BadClaim("a list has too few or too many items")
    items = []
    at += 1
    for _ in range(many):
        item, at = _read_part(ITEMS[kind], words, at)
        items.append(item)
    return items, at


def _read_program(word):
    """Return the program whose code is written."""
    try:
        return decode(_read_tree(word))
    except NoCode:
        raise BadClaim("a tree is no code")


def _read_tree(word):
    """Return the tree that is written."""
    if not is_tree(word):
        raise BadClaim("a word is no tree")
    return word


def _read_number(word):
    """Return the number that is written."""
    # int reads zeros in front and digits of other scripts, too, and takes long for many digits.
    if len(word) > len(str(MOST_NUMBER)) or not word.isdecimal():
        raise BadClaim("a word is no number")
    value = int(word)
    if str(value) != word or value > MOST_NUMBER:
        raise BadClaim("a word is no number of a claim")
    return value
