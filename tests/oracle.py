"""A second, slow reading of the document, against which the tests hold the package.

A tree is here a tuple: () is the leaf, (head, tail) a pair. Nothing is imported
from the package, and the functions call themselves, so trees must not be deep.
"""

import itertools

LEAF = ()
OPCODES = {"set": 0, "move": 1, "cons": 2, "head": 3, "tail": 4, "jump": 5}


def sign_string(tree):
    return "0" if tree == LEAF else "1" + sign_string(tree[0]) + sign_string(tree[1])


def read(line, at=0):
    """Return the tree that begins at an index, and the index behind it, or None."""
    if at >= len(line) or line[at] not in "01":
        return None
    if line[at] == "0":
        return LEAF, at + 1
    first = read(line, at + 1)
    second = first and read(line, first[1])
    return second and ((first[0], second[0]), second[1])


def is_tree(line):
    found = read(line)
    return found is not None and found[1] == len(line)


def tree_of(line):
    return read(line)[0]


def trees_with(pairs):
    """Return the strings of all trees with so many pairs."""
    if pairs == 0:
        return ["0"]
    found = []
    for left in range(pairs):
        for first, second in itertools.product(trees_with(left), trees_with(pairs - 1 - left)):
            found.append("1" + first + second)
    return found


def number(value):
    return LEAF if value == 0 else (LEAF, number(value - 1))


def list_of(trees):
    return (trees[0], list_of(trees[1:])) if trees else LEAF


def instruction_code(instruction):
    word, a, *rest = instruction
    if word == "set":
        last = tree_of(rest[0])
    elif word == "cons":
        last = (number(rest[0]), number(rest[1]))
    elif word == "jump":
        sign = LEAF if rest[0] >= 0 else (LEAF, LEAF)
        last = (sign, number(abs(rest[0])))
    else:
        last = number(rest[0])
    return (number(OPCODES[word]), (number(a), last))


def code(program):
    return sign_string(list_of([instruction_code(instruction) for instruction in program]))


def instructions_with(most):
    """Return instructions with all ways of jumps, among them all whose codes have at most so many pairs."""
    trees = [tree for pairs in range(most) for tree in trees_with(pairs)]
    small = range(most + 1)
    found = [("set", a, tree) for a in small for tree in trees]
    found += [(word, a, b) for word in ("move", "head", "tail") for a in small for b in small]
    found += [("cons", a, b, c) for a in small for b in small for c in small]
    found += [("jump", a, n) for a in small for n in range(-most, most + 1)]
    sized = [(code([instruction]).count("1") - 1, instruction) for instruction in found]
    return [(pairs, instruction) for pairs, instruction in sized if pairs <= most]


def programs_with(most):
    """Return all programs whose codes have at most so many pairs."""
    choices = instructions_with(most)

    def longer(left):
        yield []
        for pairs, instruction in choices:
            if pairs + 1 <= left:
                for rest in longer(left - pairs - 1):
                    yield [instruction] + rest

    return [program for program in longer(most) if jumps_stay(program)]


def jumps_stay(program):
    for index, instruction in enumerate(program):
        if instruction[0] == "jump" and not 0 <= index + instruction[2] <= len(program):
            return False
    return True


def state_after(program, state):
    """Return the state behind one step, with tuples for trees."""
    index, registers = state
    word, a, *rest = program[index]
    registers = list(registers)
    if word == "jump":
        return index + (rest[0] if registers[a] != LEAF else 1), tuple(registers)
    if word == "set":
        registers[a] = tree_of(rest[0])
    elif word == "move":
        registers[a] = registers[rest[0]]
    elif word == "cons":
        registers[a] = (registers[rest[0]], registers[rest[1]])
    elif registers[rest[0]] == LEAF:
        registers[a] = LEAF
    else:
        registers[a] = registers[rest[0]][0 if word == "head" else 1]
    return index + 1, tuple(registers)


def states(program, x, steps):
    """Return the states of a run, from the first one on, as pairs of an index and strings."""
    state = (0, (tree_of(x),) + (LEAF,) * 19)
    found = [state]
    while state[0] < len(program) and len(found) <= steps:
        state = state_after(program, state)
        found.append(state)
    return [(index, tuple(sign_string(tree) for tree in registers)) for index, registers in found]
