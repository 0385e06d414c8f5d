"""Programs that do otherwise than a program says that decides something about programs."""

from narcissus.building import choice
from narcissus.knowing import beside_own_code, knowing
from narcissus.programs import code
from narcissus.running import run
from narcissus.trees import LEAF


def says_yes(decider, program, steps):
    """Return the pair of whether the decider says yes of the program, and the number of steps."""
    result, done = run(decider, code(program), steps)
    return result != LEAF, done


def defeat(decider, yes, no):
    """Return a program that agrees with no if the decider says yes of it, and with yes if it says no."""
    # The input of all three is the tree of the code and x, of which each needs one part.
    # choice looks at their widths; it may itself be wider than what knowing takes.
    return beside_own_code(choice(
        [("head", 0, 0), *decider],
        [("tail", 0, 0), *no],
        [("tail", 0, 0), *yes],
    ))


def liar(program):
    """Return a program that ends on x exactly if the program returns the leaf on the tree of its code and x."""
    # This jump leads to itself for a pair, and to the end for the leaf.
    return knowing([*program, ("jump", 0, 0)])
