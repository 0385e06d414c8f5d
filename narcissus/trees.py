"""Trees as strings, and the numbers and lists that are trees."""

from narcissus.errors import TooLarge

MOST_TREE = 200000

LEAF = "0"


def is_tree(value):
    """Tell whether a value is a tree of at most MOST_TREE characters."""
    if not isinstance(value, str) or len(value) > MOST_TREE:
        return False
    if value.count("0") + value.count("1") != len(value):
        return False
    return end_of(value, 0) == len(value)


def end_of(signs, start):
    """Return the index behind the tree that begins at start, or one beyond all signs if the tree is cut off."""
    at = start
    wanted = 1
    # As many trees as are wanted have at least as many signs, so these can be read
    # at once; each pair among them wants two further trees.
    while wanted > 0:
        pairs = signs.count("1", at, at + wanted)
        at = at + wanted
        wanted = 2 * pairs
    return at


def cons(first, second):
    """Return the tree with this head and this tail."""
    if 1 + len(first) + len(second) > MOST_TREE:
        raise TooLarge("the tree of two trees has too many characters")
    return "1" + first + second


def head(tree):
    """Return the head of a tree; that of the leaf is the leaf."""
    if tree == LEAF:
        return LEAF
    return tree[1:end_of(tree, 1)]


def tail(tree):
    """Return the tail of a tree; that of the leaf is the leaf."""
    if tree == LEAF:
        return LEAF
    return tree[end_of(tree, 1):]


def number(value):
    """Return the tree of an integer of at least 0."""
    if 2 * value + 1 > MOST_TREE:
        raise TooLarge("the tree of the number has too many characters")
    return "10" * value + LEAF


def value_of(tree):
    """Return the integer whose number the tree is, or None."""
    value = len(tree) // 2
    if tree == "10" * value + LEAF:
        return value
    return None


def list_of(trees):
    """Return the tree that is the list of the trees."""
    if len(trees) + sum([len(tree) for tree in trees]) + 1 > MOST_TREE:
        raise TooLarge("the list of the trees has too many characters")
    return "".join(["1" + tree for tree in trees]) + LEAF


def items_of(tree):
    """Return the trees of which the tree is the list."""
    items = []
    at = 0
    while tree[at] == "1":
        end = end_of(tree, at + 1)
        items.append(tree[at + 1:end])
        at = end
    return items
