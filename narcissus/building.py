"""Programs out of programs: one after the other, beside each other, by choice, and again and again."""

from narcissus.parts import cleaning, greatest_width, placed, within_limits

# What a register holds from which a jump is made in any case.
PAIR = "100"


def constant(tree):
    """Return the program that returns the tree on every input."""
    return within_limits([("set", 0, tree)])


def chain(programs):
    """Return the program that gives what each program returns to the one behind it."""
    greatest_width(programs)
    lines = []
    for index, program in enumerate(programs):
        if index > 0:
            lines.extend(cleaning(program))
        lines.extend(program)
    return within_limits(lines)


def both(first, second):
    """Return the program that returns the tree of what both programs return."""
    kept = greatest_width([first, second])
    clean = cleaning(second)
    return within_limits([
        ("move", kept, 0),
        *first,
        ("move", kept + 1, 0),
        ("move", 0, kept),
        *clean,
        *second,
        ("cons", 0, kept + 1, 0),
    ])


def choice(condition, first, second):
    """Return the program that does the first program if the condition returns a pair, and else the second."""
    kept = greatest_width([condition, first, second])
    clean_first = cleaning(first)
    clean_second = cleaning(second)
    return within_limits(placed([
        ("move", kept, 0),
        *condition,
        ("jump", 0, "first"),
        ("move", 0, kept),
        *clean_second,
        *second,
        ("set", kept, PAIR),
        ("jump", kept, "end"),
        ("mark", "first"),
        ("move", 0, kept),
        *clean_first,
        *first,
        ("mark", "end"),
    ]))


def loop(condition, body):
    """Return the program that does the body again and again, as long as the condition returns a pair."""
    kept = greatest_width([condition, body])
    clean_condition = cleaning(condition)
    clean_body = cleaning(body)
    return within_limits(placed([
        ("mark", "again"),
        ("move", kept, 0),
        *clean_condition,
        *condition,
        ("jump", 0, "body"),
        ("move", 0, kept),
        ("set", kept, PAIR),
        ("jump", kept, "end"),
        ("mark", "body"),
        ("move", 0, kept),
        *clean_body,
        *body,
        ("set", kept, PAIR),
        ("jump", kept, "again"),
        ("mark", "end"),
    ]))
