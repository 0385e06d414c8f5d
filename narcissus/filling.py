"""Programs with one input filled in."""

from narcissus.parts import within_limits
from narcissus.programs import code
from narcissus.trees import items_of, number

# What filled does between the tree and the program.
JOINING = (("cons", 0, 1, 0), ("set", 1, "0"))


def filled(program, tree):
    """Return the program that returns on x what the program returns on the tree of this tree and x."""
    return within_limits([("set", 1, tree), *JOINING, *program])


def filler():
    """Return the program that returns the code of a filled program on the code of the program and the tree."""
    second, third = items_of(code(list(JOINING)))
    return [
        ("head", 1, 0),
        ("tail", 2, 0),
        # The code of ("set", 1, tree): register 3 is still the leaf, and so the number 0.
        ("set", 4, number(1)),
        ("cons", 2, 4, 2),
        ("cons", 2, 3, 2),
        ("set", 3, third),
        ("cons", 1, 3, 1),
        ("set", 3, second),
        ("cons", 1, 3, 1),
        ("cons", 0, 2, 1),
    ]
