"""What the constructions of programs have in common: limits, cleanings and marks for jumps."""

from narcissus.errors import TooLarge, TooWide
from narcissus.programs import MOST_CODE, trees_of, width
from narcissus.trees import LEAF, MOST_TREE

# Wider programs would leave too few registers to those that are made of them.
MOST_WIDTH = 16

# At the beginning of a program, behind ("set", 1, tree), these put the code of that
# instruction into register 2. Register 3 is the leaf there, and so the number 0.
CODE_OF_FIRST = (("set", 2, "100"), ("cons", 2, 2, 1), ("cons", 2, 3, 2))


def greatest_width(programs):
    """Return the greatest width of some programs, or 1 if there are none, unless one of them is too wide."""
    greatest = max([width(program) for program in programs], default=1)
    if greatest > MOST_WIDTH:
        raise TooWide("a given program has too great a width")
    return greatest


def within_limits(program):
    """Return the program, unless it is too large to be one."""
    if len(program) > MOST_CODE:
        raise TooLarge("the program has too many instructions")
    if sum([len(tree) for tree in trees_of(program)]) > MOST_TREE:
        raise TooLarge("the trees of the program have too many characters")
    return program


def cleaning(program):
    """Return the instructions that make a leaf of each register of a program but register 0."""
    return [("set", place, LEAF) for place in range(1, width(program))]


def placed(lines):
    """Return the program that some lines stand for.

    A line is an instruction, or ("mark", name) in front of one or at the end, or
    ("jump", a, name), which becomes the jump to that mark.
    """
    marks = {}
    count = 0
    for line in lines:
        if line[0] == "mark":
            marks[line[1]] = count
        else:
            count += 1
    program = []
    for line in lines:
        if line[0] == "jump" and isinstance(line[2], str):
            program.append(("jump", line[1], marks[line[2]] - len(program)))
        elif line[0] != "mark":
            program.append(line)
    return program
