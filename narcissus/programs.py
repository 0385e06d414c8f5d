"""Programs, their codes and their texts."""

from narcissus.errors import BadText, NoCode
from narcissus.trees import LEAF, MOST_TREE, cons, head, is_tree, items_of, list_of, number, tail, value_of

MOST_CODE = 600
REGISTERS = 20

# The place of a word is its number in codes.
WORDS = ("set", "move", "cons", "head", "tail", "jump")

# What the parts behind each word are: r a register, t a tree, n the way of a jump.
SHAPES = {"set": "rt", "move": "rr", "cons": "rrr", "head": "rr", "tail": "rr", "jump": "rn"}

# The sign in the code of a jump that leads back.
BACK = "100"

# No register and no way of a jump has more digits.
MOST_DIGITS = 3


def is_program(value):
    """Tell whether a value is a program."""
    if not isinstance(value, list) or len(value) > MOST_CODE:
        return False
    for index, instruction in enumerate(value):
        if not _has_shape(instruction, index, len(value)):
            return False
    trees = trees_of(value)
    # The lengths come first, so that no more than MOST_TREE characters are ever read.
    if sum([len(tree) for tree in trees]) > MOST_TREE:
        return False
    return all([is_tree(tree) for tree in trees])


def trees_of(program):
    """Return the trees that the instructions of a program hold."""
    return [instruction[2] for instruction in program if instruction[0] == "set"]


def _has_shape(value, index, count):
    """Tell whether a value is an instruction with this index among so many, whatever string its tree is."""
    if not isinstance(value, tuple) or len(value) == 0:
        return False
    word = value[0]
    if not isinstance(word, str) or word not in SHAPES:
        return False
    shape = SHAPES[word]
    if len(value) != 1 + len(shape):
        return False
    return all([_fits(kind, part, index, count) for kind, part in zip(shape, value[1:])])


def _fits(kind, part, index, count):
    """Tell whether a value is a part of this kind in the instruction with this index among so many."""
    if kind == "t":
        return isinstance(part, str)
    if not isinstance(part, int) or isinstance(part, bool):
        return False
    if kind == "r":
        return 0 <= part < REGISTERS
    return 0 <= index + part <= count


def width(program):
    """Return 1 more than the greatest register of a program, and at least 1."""
    greatest = 0
    for instruction in program:
        for kind, part in zip(SHAPES[instruction[0]], instruction[1:]):
            if kind == "r":
                greatest = max(greatest, part)
    return greatest + 1


def code(program):
    """Return the tree that is the code of a program."""
    return list_of([_instruction_code(instruction) for instruction in program])


def _instruction_code(instruction):
    """Return the code of an instruction."""
    word = instruction[0]
    parts = [_part_code(kind, part) for kind, part in zip(SHAPES[word], instruction[1:])]
    rest = parts[-1]
    for part in reversed(parts[:-1]):
        rest = cons(part, rest)
    return cons(number(WORDS.index(word)), rest)


def _part_code(kind, part):
    """Return the tree of a part of this kind."""
    if kind == "t":
        return part
    if kind == "r":
        return number(part)
    return cons(BACK if part < 0 else LEAF, number(abs(part)))


def decode(tree):
    """Return the program whose code the tree is."""
    items = items_of(tree)
    if len(items) > MOST_CODE:
        raise NoCode("the tree has too many items")
    program = [_decoded_instruction(item) for item in items]
    if not is_program(program):
        raise NoCode("the instructions are no program")
    return program


def _decoded_instruction(tree):
    """Return the tuple that has the form of an instruction and this code; its integers may be out of range."""
    first, rest = _two_parts(tree)
    place = _decoded_number(first)
    if place >= len(WORDS):
        raise NoCode("no instruction has this number")
    word = WORDS[place]
    shape = SHAPES[word]
    parts = [word]
    for kind in shape[:-1]:
        first, rest = _two_parts(rest)
        parts.append(_decoded_part(kind, first))
    parts.append(_decoded_part(shape[-1], rest))
    return tuple(parts)


def _decoded_part(kind, tree):
    """Return the part of this kind whose tree this is."""
    if kind == "t":
        return tree
    if kind == "r":
        return _decoded_number(tree)
    sign, rest = _two_parts(tree)
    size = _decoded_number(rest)
    if sign == LEAF:
        return size
    # There is only one code of a jump by 0, the one with the leaf as its sign.
    if sign == BACK and size > 0:
        return -size
    raise NoCode("the way of a jump has no such sign")


def _two_parts(tree):
    """Return the head and the tail of a tree that has to be a pair."""
    if tree == LEAF:
        raise NoCode("the leaf stands for no two trees")
    return head(tree), tail(tree)


def _decoded_number(tree):
    """Return the integer of a tree that has to be a number."""
    value = value_of(tree)
    if value is None:
        raise NoCode("the tree is no number")
    return value


def text(program):
    """Return the text of a program."""
    return "; ".join([" ".join([str(part) for part in instruction]) for instruction in program])


def parse(line):
    """Return the program whose text the line is."""
    if line == "":
        return []
    pieces = line.split("; ")
    if len(pieces) > MOST_CODE:
        raise BadText("the text has too many instructions")
    program = [_parsed_instruction(piece) for piece in pieces]
    if not is_program(program):
        raise BadText("the instructions are no program")
    return program


def _parsed_instruction(piece):
    """Return the tuple that has the form of an instruction and this text; its parts may be out of range."""
    words = piece.split(" ")
    if words[0] not in SHAPES:
        raise BadText("there is no such instruction")
    shape = SHAPES[words[0]]
    if len(words) != 1 + len(shape):
        raise BadText("an instruction has another number of parts")
    parts = [word if kind == "t" else _parsed_integer(word) for kind, word in zip(shape, words[1:])]
    return (words[0], *parts)


def _parsed_integer(word):
    """Return the integer that is written as in the text of a program."""
    digits = word.removeprefix("-")
    if len(digits) > MOST_DIGITS or not digits.isdecimal():
        raise BadText("an integer is expected")
    value = int(word)
    # int also reads zeros in front, -0, and digits of other scripts.
    if str(value) != word:
        raise BadText("an integer is written in another form")
    return value
