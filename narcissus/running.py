"""Runs of programs, step by step or many steps at once."""

from narcissus.errors import Ended, OutOfSteps, TooLarge
from narcissus.programs import REGISTERS
from narcissus.trees import LEAF, MOST_TREE, cons, head, tail


def first_state(x):
    """Return the state in which a run on the input begins."""
    return 0, (x,) + (LEAF,) * (REGISTERS - 1)


def step(program, state):
    """Return the state behind one step."""
    index, registers = state
    if index == len(program):
        raise Ended("the run has ended")
    instruction = program[index]
    if instruction[0] == "jump":
        if registers[instruction[1]] == LEAF:
            return index + 1, registers
        return index + instruction[2], registers
    changed = list(registers)
    changed[instruction[1]] = _new_tree(instruction, registers)
    return index + 1, tuple(changed)


def _new_tree(instruction, registers):
    """Return the tree that an instruction other than a jump gives its first register."""
    word = instruction[0]
    if word == "set":
        return instruction[2]
    tree = registers[instruction[2]]
    if word == "cons":
        return cons(tree, registers[instruction[3]])
    if word == "head":
        return head(tree)
    if word == "tail":
        return tail(tree)
    return tree


def run(program, x, steps):
    """Return the pair of the result and the number of steps."""
    machine = Machine(program, x)
    done = machine.advance(steps)
    if machine.at < len(program):
        raise OutOfSteps("the run has not ended after so many steps")
    return machine.tree_of(machine.registers[0]), done


def after(program, x, steps):
    """Return the pair of the state after so many steps, or at the end, and the number of steps."""
    machine = Machine(program, x)
    done = machine.advance(steps)
    trees = [machine.tree_of(name) for name in machine.registers]
    return (machine.at, tuple(trees)), done


class Machine:
    """A run that takes many steps.

    Each tree has a number, by which its head, its tail and its size are found, so
    that no step takes longer because a tree is large. 0 is the leaf; its head and
    its tail are 0, too.
    """

    def __init__(self, program, x):
        self.heads = [0]
        self.tails = [0]
        self.sizes = [1]
        self.at = 0
        self.registers = [self.enter(x)] + [0] * (REGISTERS - 1)
        self.plan = [self.planned(index, instruction) for index, instruction in enumerate(program)]

    def planned(self, index, instruction):
        """Return the word and three integers: trees by their numbers, jumps by where they lead."""
        word = instruction[0]
        first = instruction[1]
        if word == "set":
            return word, first, self.enter(instruction[2]), 0
        if word == "jump":
            return word, first, index + instruction[2], 0
        if word == "cons":
            return word, first, instruction[2], instruction[3]
        return word, first, instruction[2], 0

    def enter(self, tree):
        """Return the number of a tree that is given as a string."""
        waiting = []
        # Read backwards, a pair comes behind its two parts, the head behind the tail.
        for sign in reversed(tree):
            if sign == "1":
                first = waiting.pop()
                second = waiting.pop()
                waiting.append(self.pair(first, second))
            else:
                waiting.append(0)
        return waiting[0]

    def pair(self, first, second):
        """Return the number of the tree with this head and this tail."""
        self.heads.append(first)
        self.tails.append(second)
        self.sizes.append(1 + self.sizes[first] + self.sizes[second])
        return len(self.sizes) - 1

    def joined(self, first, second):
        """Return what pair returns, if it is not too large."""
        if 1 + self.sizes[first] + self.sizes[second] > MOST_TREE:
            raise TooLarge("a step makes a tree of too many characters")
        return self.pair(first, second)

    def advance(self, steps):
        """Do so many steps, or those up to the end, and return how many were done."""
        heads = self.heads
        tails = self.tails
        registers = self.registers
        plan = self.plan
        for done in range(steps):
            if self.at == len(plan):
                return done
            word, a, b, c = plan[self.at]
            self.at += 1
            if word == "head":
                registers[a] = heads[registers[b]]
            elif word == "tail":
                registers[a] = tails[registers[b]]
            elif word == "cons":
                registers[a] = self.joined(registers[b], registers[c])
            elif word == "move":
                registers[a] = registers[b]
            elif word == "set":
                registers[a] = b
            elif registers[a] != 0:
                self.at = b
        return steps

    def tree_of(self, name):
        """Return the tree with this number as a string."""
        signs = []
        waiting = [name]
        while len(waiting) > 0:
            name = waiting.pop()
            if name == 0:
                signs.append("0")
            else:
                signs.append("1")
                waiting.append(self.tails[name])
                waiting.append(self.heads[name])
        return "".join(signs)
