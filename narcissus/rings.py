"""Programs that know each other's codes."""

from narcissus.parts import CODE_OF_FIRST, greatest_width, within_limits
from narcissus.programs import code
from narcissus.trees import LEAF, list_of

MOST_RING = 8


def together(programs):
    """Return programs that return what the given ones return on the tree of the list of all their codes and x.

    The first instruction is the same in all of them. It holds the list of the codes of
    what stands behind it in each of them, the last program first, from which each of
    them makes the list of the whole codes.
    """
    greatest_width(programs)
    listing = _listing()
    parts = [[*listing, *program] for program in programs]
    held = list_of([code(part) for part in reversed(parts)])
    made = [within_limits([("set", 1, held), *part]) for part in parts]
    # Each program makes this list when it runs; code and list_of raise TooLarge if it is no tree.
    list_of([code(program) for program in made])
    return made


def _listing():
    """Return the instructions that put the list of all codes beside the input, and leave no other trace."""
    return [
        *CODE_OF_FIRST,
        # Once for each program: its code comes in front of those that stood behind it.
        ("head", 4, 1),
        ("cons", 4, 2, 4),
        ("cons", 3, 4, 3),
        ("tail", 1, 1),
        ("jump", 1, -4),
        ("cons", 0, 3, 0),
        ("set", 2, LEAF),
        ("set", 3, LEAF),
        ("set", 4, LEAF),
    ]


def ring(count):
    """Return so many programs, each of which returns the code of the next one, and the last one that of the first."""
    return together([_chooser((index + 1) % count) for index in range(count)])


def _chooser(index):
    """Return the program that returns the item with this index of the list that is the head of its input."""
    return [("head", 0, 0)] + [("tail", 0, 0)] * index + [("head", 0, 0)]
