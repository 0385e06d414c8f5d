"""Programs that know their own code."""

from narcissus.parts import CODE_OF_FIRST, MOST_WIDTH, cleaning, greatest_width, within_limits
from narcissus.programs import code
from narcissus.trees import LEAF
from narcissus.universe import universal


def knowing(program):
    """Return a program that returns on x what the program returns on the tree of its own code and x."""
    greatest_width([program])
    return beside_own_code(program)


def myself():
    """Return a program that returns its own code."""
    return with_own_code([("move", 0, 1)])


def bearer(program):
    """Return a program that returns the tree of its own code and of what the program returns."""
    # Register 1 holds the code at first, and has to be the leaf for the program.
    kept = max(2, greatest_width([program]))
    return with_own_code([("move", kept, 1), ("set", 1, LEAF), *program, ("cons", 0, kept, 0)])


def fixed_point(program):
    """Return a program that agrees with the one whose code the program returns on its own code."""
    greatest_width([program])
    # Neither the program nor the universal one has this register.
    kept = MOST_WIDTH
    runner = universal()
    clean = cleaning(runner)
    return with_own_code([
        ("move", kept, 0),
        ("move", 0, 1),
        ("set", 1, LEAF),
        *program,
        ("cons", 0, 0, kept),
        *clean,
        *runner,
    ])


def beside_own_code(program):
    """Return what knowing returns, for a program of any width."""
    return with_own_code([("cons", 0, 1, 0), ("set", 1, LEAF), *program])


def with_own_code(program):
    """Return a program that does what the program does, but begins with its own code in register 1.

    Its first instruction holds the code of all the others. From that tree they make
    the code of the first one, and put it in front.
    """
    others = [
        *CODE_OF_FIRST,
        ("cons", 1, 2, 1),
        ("set", 2, LEAF),
        *program,
    ]
    whole = within_limits([("set", 1, code(others)), *others])
    # Only its code, which no tree may hold then, can still be too large; code raises TooLarge.
    code(whole)
    return whole
