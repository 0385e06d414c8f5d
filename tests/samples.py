"""Programs, inputs and helpers that several tests share."""

from narcissus.errors import OutOfSteps, TooLarge
from narcissus.programs import code, parse
from narcissus.running import run
from narcissus.trees import number

# Gives the mirror image of a list of trees back.
REVERSE = parse("set 19 100; jump 0 2; jump 19 5; head 2 0; cons 1 2 1; tail 0 0; jump 19 -5; move 0 1")
# Doubles the register 0 until that is too large: 1, 3, 7, ... characters.
DOUBLE = parse("set 1 100; cons 0 0 0; jump 1 -1")
FOREVER = parse("set 1 100; jump 1 0")

# The same as REVERSE, with a width of 4.
NARROW_REVERSE = parse("set 3 100; jump 0 2; jump 3 5; head 2 0; cons 1 2 1; tail 0 0; jump 3 -5; move 0 1")
HEAD = parse("head 0 0")
TAIL = parse("tail 0 0")
SWAP = parse("head 1 0; tail 2 0; cons 0 2 1")
# Adds 1 to a number; leaves the old number and other things in its registers.
ADD_1 = parse("move 2 0; set 1 11000; move 3 1; set 1 0; cons 0 1 0")
# Returns the leaf for the leaf, and never anything for a pair.
END_ON_LEAF = parse("jump 0 0")
# Returns the pair for a pair, and never anything for the leaf.
END_ON_PAIR = parse("set 1 100; jump 0 2; jump 1 0")
# Adds the register 1 to the register 5: shows whether registers are clean.
LOOK_AT_REGISTERS = parse(
    "cons 0 0 1; cons 0 0 2; cons 0 0 3; cons 0 0 4; set 1 100; set 2 1100100; set 3 100; set 4 11000"
)

SAMPLES = (
    [], HEAD, TAIL, SWAP, ADD_1, NARROW_REVERSE, END_ON_LEAF, END_ON_PAIR, LOOK_AT_REGISTERS, FOREVER,
    parse("set 0 11000"), parse("jump 0 2; set 0 1100100; cons 1 0 0; cons 0 1 0"), parse("move 15 0; head 0 15"),
)
INPUTS = ("0", "100", "10100", "11000", "1100100", "110011000", "1101001011000", "1010101010101010100")


def random_program(chance, count, registers=4):
    program = []
    for index in range(count):
        a, b, c = (chance.randrange(registers) for _ in range(3))
        program.append(chance.choice([
            ("set", a, chance.choice(["0", "100", "11000", "1100100"])), ("move", a, b), ("cons", a, b, c),
            ("head", a, b), ("tail", a, b), ("jump", a, chance.randint(-index, count - index)),
        ]))
    return program


def ended(program, x, steps):
    """Return the result and the number of steps of a run, or None if it has not ended after so many.

    None is also returned if a step was too large: then nothing is said about the result.
    """
    try:
        return run(program, x, steps)
    except (OutOfSteps, TooLarge):
        return None


def wide(width):
    """Return a program with this width that returns its input."""
    return [("move", width - 1, 0)]


def with_code_size(count, size):
    """Return a program with so many instructions whose code has so many characters, an odd number."""
    rest = size - 6 * (count - 1) - 6
    program = [("set", 0, number(rest // 2))] + [("set", 0, "0")] * (count - 1)
    assert len(code(program)) == size
    return program


def all_different(lists):
    """Tell whether no two of the lists are the same object."""
    return len({id(found) for found in lists}) == len(lists)
