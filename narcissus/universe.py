"""A program that runs all programs.

It holds the registers of the program that it runs as a list, and the code of that
program in two lists: the instructions ahead, and those behind, the nearest first.
"""

from narcissus.errors import TooLarge
from narcissus.parts import placed
from narcissus.programs import code
from narcissus.trees import MOST_TREE

# The registers of the universal program. A universal program that runs another one
# needs the fewer steps the smaller the numbers are that are used most.
STATE = 0
WALK = 1
PASSED = 2
TARGET = 3
VALUE = 4
WORD = 5
AHEAD = 6
BEHIND = 7
WAY = 8


def universal():
    """Return the program that returns what a program returns, on the tree of its code and an input."""
    return placed(_begin() + _decode() + _make_tree() + _make_jump() + _change_register() + _go_on())


def _begin():
    """Return the lines that prepare the first state."""
    return [
        ("head", AHEAD, 0),
        ("tail", STATE, 0),
        # As the leaf is its own head and tail, it does for the list of the registers that were never changed.
        ("cons", STATE, STATE, WALK),
        # The list of all registers is never the leaf, so this is a jump in any case, here and below.
        ("jump", STATE, "fetch"),
    ]


def _decode():
    """Return the lines that read the next instruction; for "set" they find the new tree, too."""
    return [
        ("mark", "decode"),
        ("head", VALUE, AHEAD),
        ("head", WORD, VALUE),
        ("tail", VALUE, VALUE),
        ("head", TARGET, VALUE),
        ("tail", VALUE, VALUE),
        ("jump", WORD, "move"),
        ("jump", STATE, "change"),
    ]


def _make_tree():
    """Return the lines that find the new tree for "move", "cons", "head" and "tail"."""
    look_up = _look_up(VALUE)
    look_up_both = [("head", WORD, VALUE), ("tail", VALUE, VALUE)] + _look_up(WORD) + look_up
    return (
        _case("move", "cons", look_up)
        + _case("cons", "head", look_up_both + [("cons", VALUE, WORD, VALUE)])
        + _case("head", "tail", look_up + [("head", VALUE, VALUE)])
        + _case("tail", "jump", look_up + [("tail", VALUE, VALUE)])
    )


def _case(name, following, lines):
    """Return the lines for an instruction of this name, behind which those of the following one stand."""
    return [
        ("mark", name),
        # The number of the word is counted down from case to case.
        ("tail", WORD, WORD),
        ("jump", WORD, following),
        *lines,
        ("jump", STATE, "change"),
    ]


def _look_up(place):
    """Return the lines that put in place of a number the tree of the register with that number."""
    return [
        ("move", WALK, STATE),
        ("jump", place, 2),
        ("jump", STATE, 4),
        ("tail", WALK, WALK),
        ("tail", place, place),
        ("jump", place, -2),
        ("head", place, WALK),
    ]


def _make_jump():
    """Return the lines that find out where a jump leads, and those that go back."""
    look_up = _look_up(TARGET)
    return [
        ("mark", "jump"),
        *look_up,
        ("jump", TARGET, "made"),
        ("jump", STATE, "forward"),
        ("mark", "made"),
        ("head", WALK, VALUE),
        ("tail", WAY, VALUE),
        ("jump", WALK, "back"),
        ("jump", WAY, "forward"),
        ("jump", STATE, "fetch"),
        ("mark", "back"),
        ("head", WALK, BEHIND),
        ("cons", AHEAD, WALK, AHEAD),
        ("tail", BEHIND, BEHIND),
        ("tail", WAY, WAY),
        ("jump", WAY, "back"),
        ("jump", STATE, "fetch"),
    ]


def _change_register():
    """Return the lines that give the target the new tree."""
    return [
        ("mark", "change"),
        ("jump", TARGET, "down"),
        ("tail", STATE, STATE),
        ("cons", STATE, VALUE, STATE),
        ("jump", STATE, "forward"),
        ("mark", "down"),
        ("head", WALK, STATE),
        ("cons", PASSED, WALK, PASSED),
        ("tail", STATE, STATE),
        ("tail", TARGET, TARGET),
        ("jump", TARGET, "down"),
        ("tail", STATE, STATE),
        ("cons", STATE, VALUE, STATE),
        ("mark", "up"),
        ("head", WALK, PASSED),
        ("cons", STATE, WALK, STATE),
        ("tail", PASSED, PASSED),
        ("jump", PASSED, "up"),
    ]


def _go_on():
    """Return the lines that go forward, by 1 if the way is the leaf, and those that end the run."""
    return [
        ("mark", "forward"),
        ("head", WALK, AHEAD),
        ("cons", BEHIND, WALK, BEHIND),
        ("tail", AHEAD, AHEAD),
        ("tail", WAY, WAY),
        ("jump", WAY, "forward"),
        ("mark", "fetch"),
        ("jump", AHEAD, "decode"),
        ("head", 0, STATE),
    ]


def tower(programs, x):
    """Return the tree of the codes of the programs, each beside all that is behind it, with x at the end."""
    tree = "".join(["1" + code(program) for program in programs]) + x
    if len(tree) > MOST_TREE:
        raise TooLarge("the tower has too many characters")
    return tree
