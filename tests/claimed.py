"""Claims and their parts, for the tests of claims."""

from narcissus.defeats import defeat, liar
from narcissus.building import constant
from narcissus.knowing import fixed_point, knowing
from narcissus.order import padded
from narcissus.programs import code
from narcissus.rings import together
from samples import FOREVER, HEAD, INPUTS, SWAP, TAIL, random_program

# The kinds of the parts, as point 31 has them.
KINDS = {
    "returns": ("program", "tree", "tree", "number"),
    "lasts": ("program", "tree", "number"),
    "never": ("program", "tree", "number", "number"),
    "agree": ("program", "program", "inputs", "number"),
    "knows": ("program", "program"),
    "fixed": ("program", "program"),
    "together": ("programs", "programs"),
    "defeats": ("program", "program", "program", "program", "tree", "number"),
    "lies": ("program", "program", "tree", "tree", "number"),
}

CONSTANT = constant(code(SWAP))


def shown_claims():
    """Return a claim of each form that is shown, by its word; the numbers of steps are as small as can be."""
    return {
        "returns": ("returns", list(SWAP), "11000", "10100", 3),
        "lasts": ("lasts", list(SWAP), "11000", 2),
        "never": ("never", list(FOREVER), "0", 1, 2),
        "agree": ("agree", list(SWAP), padded(SWAP, 2), list(INPUTS[:3]), 5),
        "knows": ("knows", list(SWAP), knowing(SWAP)),
        "fixed": ("fixed", list(CONSTANT), fixed_point(CONSTANT)),
        "together": ("together", [list(SWAP), list(HEAD)], together([SWAP, HEAD])),
        "defeats": ("defeats", constant("0"), list(SWAP), list(HEAD), defeat(constant("0"), SWAP, HEAD), "0", 1),
        "lies": ("lies", list(TAIL), liar(TAIL), "100", "100", 1),
    }


def replaced(claim, at, part):
    return claim[:at] + (part,) + claim[at + 1:]


def random_part(chance, kind):
    if kind == "program":
        return random_program(chance, chance.randrange(5), chance.choice([2, 4, 20]))
    if kind == "tree":
        return chance.choice(INPUTS)
    if kind == "number":
        return chance.choice([0, 1, 9, 10, 100, 999999, 1000000, chance.randrange(1000001)])
    if kind == "programs":
        return [random_part(chance, "program") for _ in range(chance.choice([1, 2, 3, 8]))]
    return [chance.choice(INPUTS) for _ in range(chance.choice([0, 1, 2, 10, 20]))]


def random_claim(chance, word):
    return (word, *[random_part(chance, kind) for kind in KINDS[word]])
