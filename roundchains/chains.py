"""Chains: a text's names turned into states' numbers, and a chain's one form."""

from roundchains.faults import FORM_TOO_LONG, Fault, NO_STATE, TWICE
from roundchains.grammar import read_chain
from roundchains.ratios import ZERO, written
from roundchains.tokens import MOST_BYTES, tokens_of


class Chain:
    """A chain: states are told by number, a step is a pair of a state's number and a weight."""

    def __init__(self, title, names, worths, steps, start):
        self.title = title
        self.names = names
        self.worths = worths
        self.steps = steps
        self.start = start


def chain_of(text):
    """The chain that a text writes; raises the text's Fault if it is none."""
    found = read_chain(tokens_of(text))
    numbers = numbers_of_names(found.states)
    check_names(found, numbers)
    chain = Chain(
        found.title,
        [state.name.value for state in found.states],
        [state.worth for state in found.states],
        [numbered_steps(state, numbers) for state in found.states],
        numbers[found.start.value],
    )
    if len(one_form(chain)) > MOST_BYTES:
        raise Fault(FORM_TOO_LONG, 0)
    return chain


def numbers_of_names(states):
    """The number of the first state of each name."""
    numbers = {}
    for number, state in enumerate(states):
        if state.name.value not in numbers:
            numbers[state.name.value] = number
    return numbers


def check_names(found, numbers):
    """Raise the first Fault of a name, state by state, and of the start's name at last."""
    for number, state in enumerate(found.states):
        if numbers[state.name.value] != number:
            raise Fault(TWICE, state.name.place)
        check_step_names(state, numbers)
    if found.start.value not in numbers:
        raise Fault(NO_STATE, found.start.place)


def check_step_names(state, numbers):
    """Raise the first Fault of a step's name."""
    earlier = {}
    for step in state.steps:
        if step.name.value not in numbers:
            raise Fault(NO_STATE, step.name.place)
        if step.name.value in earlier:
            raise Fault(TWICE, step.name.place)
        earlier[step.name.value] = True


def numbered_steps(state, numbers):
    """A state's steps with the numbers of the states that they lead to."""
    return [(numbers[step.name.value], step.weight) for step in state.steps]


def one_form(chain):
    """The one form of a chain, as a text."""
    title = chain.title
    start = chain.names[chain.start]
    lines = [f"chance {title}\n"]
    for number in range(len(chain.names)):
        lines.append(state_line(chain, number))
    lines.append(f"tell {start}\n")
    return "".join(lines)


def state_line(chain, number):
    """The line of a state in the one form."""
    line = chain.names[number]
    if chain.worths[number] != ZERO:
        worth = written(chain.worths[number])
        line += f" [{worth}]"
    if len(chain.steps[number]) > 0:
        steps = ", ".join([written_step(chain, step) for step in chain.steps[number]])
        line += f" -> {steps}"
    return line + " ;\n"


def written_step(chain, step):
    """A step in the one form."""
    name = chain.names[step[0]]
    weight = written(step[1])
    return f"{name} : {weight}"
