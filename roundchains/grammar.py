"""Tokens, read from left to right as the grammar of chains allows them."""

from roundchains.faults import Fault, NOT_ALLOWED, NO_WEIGHT, TOO_MANY, TOO_SMALL
from roundchains.ratios import ZERO, lowest
from roundchains.tokens import END, NAME, NUMBER

MOST_STATES = 24
MOST_STEPS = 8


class Reader:
    """Tokens, and how many of them are taken; the last, of the kind END, is taken at last or never."""

    def __init__(self, tokens):
        self.tokens = tokens
        self.taken = 0

    def sees(self, kind):
        """Whether the token to be taken is of this kind."""
        return self.tokens[self.taken].kind == kind

    def here(self):
        """The place of the token to be taken."""
        return self.tokens[self.taken].place

    def take(self, kind):
        """The token to be taken, which must be of this kind."""
        if not self.sees(kind):
            raise Fault(NOT_ALLOWED, self.here())
        token = self.tokens[self.taken]
        self.taken += 1
        return token


class ReadStep:
    """A step as it is written: the token of its name, and its weight."""

    def __init__(self, name, weight):
        self.name = name
        self.weight = weight


class ReadState:
    """A state as it is written: the token of its name, its worth and its steps."""

    def __init__(self, name, worth, steps):
        self.name = name
        self.worth = worth
        self.steps = steps


class ReadChain:
    """A chain as it is written: its title, its states, and the token of the start's name."""

    def __init__(self, title, states, start):
        self.title = title
        self.states = states
        self.start = start


def read_chain(tokens):
    """The chain that the tokens write; raises the first Fault from left to right."""
    reader = Reader(tokens)
    reader.take("chance")
    title = reader.take(NAME).value
    states = read_states(reader)
    reader.take("tell")
    start = reader.take(NAME)
    reader.take(END)
    return ReadChain(title, states, start)


def read_states(reader):
    """One state or more."""
    states = [read_state(reader)]
    while reader.sees(NAME):
        if len(states) == MOST_STATES:
            raise Fault(TOO_MANY, reader.here())
        states.append(read_state(reader))
    return states


def read_state(reader):
    """A state, with the ; at its end."""
    name = reader.take(NAME)
    worth = read_worth(reader)
    steps = read_steps(reader)
    reader.take(";")
    return ReadState(name, worth, steps)


def read_worth(reader):
    """A state's worth; 0 if none is written."""
    if not reader.sees("["):
        return ZERO
    reader.take("[")
    worth = read_fraction(reader)
    reader.take("]")
    return worth


def read_steps(reader):
    """A state's steps; none if it is an end."""
    if not reader.sees("->"):
        return []
    arrow = reader.take("->")
    steps = [read_step(reader)]
    while reader.sees(","):
        reader.take(",")
        if len(steps) == MOST_STEPS and reader.sees(NAME):
            raise Fault(TOO_MANY, reader.here())
        steps.append(read_step(reader))
    # Only a state that is written to its ; is known to have no other step.
    if reader.sees(";") and all([step.weight == ZERO for step in steps]):
        raise Fault(NO_WEIGHT, arrow.place)
    return steps


def read_step(reader):
    """A step: a name and a weight."""
    name = reader.take(NAME)
    reader.take(":")
    first = reader.here()
    weight = read_fraction(reader)
    if weight[0] < 0:
        raise Fault(TOO_SMALL, first)
    return ReadStep(name, weight)


def read_fraction(reader):
    """A fraction, read to its end."""
    top = reader.take(NUMBER).value
    if not reader.sees("/"):
        return (top, 1)
    reader.take("/")
    bottom = reader.take(NUMBER)
    if bottom.value < 1:
        raise Fault(TOO_SMALL, bottom.place)
    return lowest(top, bottom.value)
