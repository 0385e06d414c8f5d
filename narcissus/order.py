"""All trees in order, and programs with many codes."""

from math import comb

from narcissus.errors import NoCode, TooLarge
from narcissus.parts import within_limits
from narcissus.programs import decode
from narcissus.trees import LEAF, MOST_TREE

MOST_PAIRS = 30
MOST_LISTED = 8


def count(pairs):
    """Return the number of trees with so many pairs."""
    # comb takes no number below 0.
    if pairs < 0:
        return 0
    return _count_of_rows(1, pairs)


def _count_of_rows(wanted, pairs):
    """Return the number of rows of so many trees that have so many pairs together; not both are 0."""
    signs = 2 * pairs + wanted
    # Turned in a circle, each string of these signs is such a row in `wanted` of its `signs` positions.
    return comb(signs, pairs) * wanted // signs


def rank(tree):
    """Return the number of trees before a tree."""
    pairs = tree.count("1")
    before = sum([count(fewer) for fewer in range(pairs)])
    wanted = 1
    for sign in tree:
        if sign == "1":
            # All that have a leaf here come before, whatever they have behind it.
            before += _count_of_rows(wanted - 1, pairs)
            pairs -= 1
            wanted += 1
        else:
            wanted -= 1
    return before


def unrank(number):
    """Return the tree with so many trees before it."""
    pairs = 0
    before = number
    while before >= count(pairs):
        before -= count(pairs)
        pairs += 1
    signs = []
    wanted = 1
    while pairs > 0:
        with_leaf = _count_of_rows(wanted - 1, pairs)
        if before < with_leaf:
            signs.append("0")
            wanted -= 1
        else:
            before -= with_leaf
            signs.append("1")
            pairs -= 1
            wanted += 1
    return "".join(signs) + LEAF * wanted


def following(tree):
    """Return the first tree behind a tree."""
    at = tree.rfind("01")
    if at < 0:
        # All pairs stand in front: the last tree of its size.
        found = "10" * (tree.count("1") + 1) + LEAF
    else:
        found = tree[:at] + "1" + _first_rest(len(tree) - at - 1, tree.count("1", at) - 1)
    if len(found) > MOST_TREE:
        raise TooLarge("the following tree has too many characters")
    return found


def _first_rest(size, pairs):
    """Return the first string of so many signs, with so many pairs among them, that can end a tree."""
    return LEAF * (size - 2 * pairs - 1) + "10" * pairs + LEAF


def padded(program, many):
    """Return a program that agrees with the program and has so many instructions and steps more."""
    return within_limits([("move", 0, 0)] * many + program)


def programs_up_to(most):
    """Return all programs whose codes have at most so many pairs, in the order of their codes."""
    programs = []
    tree = LEAF
    while tree.count("1") <= most:
        try:
            programs.append(decode(tree))
        except NoCode:
            pass
        tree = following(tree)
    return programs
