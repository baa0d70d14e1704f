"""The desk: calls in, answers out, all in whole numbers."""

from roundchains.averages import gain_from, gain_without_end, may_miss, steps_until
from roundchains.chains import chain_of, one_form
from roundchains.classes import period_of
from roundchains.faults import Fault
from roundchains.long_run import long_shares, steady_shares
from roundchains.visits import chance_back, chance_to_come, visited_without_end, visits_at
from roundchains.walks import chances, shares_after, walk_of

NO_CHAIN_HELD = -1
NO_SUCH_NUMBER = -2
OUT_OF_RANGE = -5
NO_SET_OF_STATES = -5
WITHOUT_END = -6
NOT_CLOSED = -7

MOST_STEPS_AFTER = 100

LOAD = 0

# For each call, by its number: how many whole numbers it has, and if a row is behind them.
NUMBERS_OF_CALLS = (0, 0, 0, 1, 2, 2, 1, 2, 1, 1, 0, 1, 1, 1)
CALLS_WITH_ROWS = (0, 8)


class Desk:
    """The object of a list of calls: the chain that it holds, or None, and the walk on it."""

    def __init__(self):
        self.chain = None
        self.walk = None

    def lacks_state(self, number):
        """Whether the chain has no state of this number."""
        return number < 0 or number >= len(self.chain.names)

    def lacks_class(self, number):
        """Whether the chain has no class of this number."""
        return number < 0 or number >= len(self.walk.classes)


def answer_load(desk, text):
    """Hold the chain of a text, or tell the text's fault."""
    try:
        chain = chain_of(text)
    except Fault as fault:
        return [0, fault.code, fault.place]
    desk.chain = chain
    desk.walk = walk_of(chain)
    return [1]


def answer_shown(desk, numbers, row):
    """The chain's one form."""
    return counted_bytes(one_form(desk.chain))


def answer_sizes(desk, numbers, row):
    """How many states and steps there are, and the start's number."""
    chain = desk.chain
    return [len(chain.names), sum([len(steps) for steps in chain.steps]), chain.start]


def answer_state(desk, numbers, row):
    """A state's name, worth and steps."""
    number = numbers[0]
    if desk.lacks_state(number):
        return [NO_SUCH_NUMBER]
    steps = desk.chain.steps[number]
    told = [1] + counted_bytes(desk.chain.names[number]) + list(desk.chain.worths[number]) + [len(steps)]
    for step, chance in zip(steps, chances(steps)):
        told.append(step[0])
        told.extend(chance)
    return told


def answer_after(desk, numbers, row):
    """The shares of all states after some steps from a state."""
    count = numbers[1]
    if desk.lacks_state(numbers[0]):
        return [NO_SUCH_NUMBER]
    if count < 0 or count > MOST_STEPS_AFTER:
        return [OUT_OF_RANGE]
    return counted_shares(shares_after(desk.walk, numbers[0], count))


def answer_come(desk, numbers, row):
    """The chance ever to come from a state to a state."""
    if desk.lacks_state(numbers[0]) or desk.lacks_state(numbers[1]):
        return [NO_SUCH_NUMBER]
    return [1] + list(chance_to_come(desk.walk, numbers[0], numbers[1]))


def answer_back(desk, numbers, row):
    """The chance to visit a state again."""
    if desk.lacks_state(numbers[0]):
        return [NO_SUCH_NUMBER]
    return [1] + list(chance_back(desk.walk, numbers[0]))


def answer_visits(desk, numbers, row):
    """How many visits there are at a state from a state, on average."""
    if desk.lacks_state(numbers[0]) or desk.lacks_state(numbers[1]):
        return [NO_SUCH_NUMBER]
    if visited_without_end(desk.walk, numbers[0], numbers[1]):
        return [WITHOUT_END]
    return [1] + list(visits_at(desk.walk, numbers[0], numbers[1]))


def answer_steps(desk, numbers, row):
    """How many steps it takes from a state until one of some states is come to, on average."""
    if desk.lacks_state(numbers[0]):
        return [NO_SUCH_NUMBER]
    if any([desk.lacks_state(number) for number in row]) or len(set(row)) < len(row):
        return [NO_SET_OF_STATES]
    if may_miss(desk.walk, numbers[0], row):
        return [WITHOUT_END]
    return [1] + list(steps_until(desk.walk, numbers[0], row))


def answer_gain(desk, numbers, row):
    """What all visits from a state are worth together, on average."""
    if desk.lacks_state(numbers[0]):
        return [NO_SUCH_NUMBER]
    if gain_without_end(desk.walk, numbers[0]):
        return [WITHOUT_END]
    return [1] + list(gain_from(desk.walk, numbers[0]))


def answer_classes(desk, numbers, row):
    """All classes, each with whether it is closed, and its states."""
    told = [len(desk.walk.classes)]
    for found in desk.walk.classes:
        told.append(1 if found.closed else 0)
        told.append(len(found.states))
        told.extend(found.states)
    return told


def answer_steady(desk, numbers, row):
    """The steady shares of a class's states."""
    if desk.lacks_class(numbers[0]):
        return [NO_SUCH_NUMBER]
    if not desk.walk.classes[numbers[0]].closed:
        return [NOT_CLOSED]
    return counted_shares(steady_shares(desk.walk, numbers[0]))


def answer_long(desk, numbers, row):
    """The long run shares of all states from a state."""
    if desk.lacks_state(numbers[0]):
        return [NO_SUCH_NUMBER]
    return counted_shares(long_shares(desk.walk, numbers[0]))


def answer_period(desk, numbers, row):
    """The period of a class."""
    if desk.lacks_class(numbers[0]):
        return [NO_SUCH_NUMBER]
    return [period_of(desk.walk.rows, desk.walk.classes[numbers[0]].states)]


# The calls on a chain that is held, by their numbers.
ON_CHAIN = {
    1: answer_shown,
    2: answer_sizes,
    3: answer_state,
    4: answer_after,
    5: answer_come,
    6: answer_back,
    7: answer_visits,
    8: answer_steps,
    9: answer_gain,
    10: answer_classes,
    11: answer_steady,
    12: answer_long,
    13: answer_period,
}


def answers(calls):
    """The answers to all calls, one behind another, each with how many numbers it has ahead."""
    desk = Desk()
    told = []
    at = 0
    while at < len(calls):
        call = calls[at]
        row_at = at + 1 + NUMBERS_OF_CALLS[call]
        numbers = calls[at + 1:row_at]
        row = []
        at = row_at
        if call in CALLS_WITH_ROWS:
            at = row_at + 1 + calls[row_at]
            row = calls[row_at + 1:at]
        answer = answer_to(desk, call, numbers, row)
        told.append(len(answer))
        told.extend(answer)
    return told


def answer_to(desk, call, numbers, row):
    """The answer to one call."""
    if call == LOAD:
        return answer_load(desk, row)
    if desk.chain is None:
        return [NO_CHAIN_HELD]
    return ON_CHAIN[call](desk, numbers, row)


def counted_bytes(text):
    """How many bytes a text has, and they."""
    return [len(text)] + [ord(sign) for sign in text]


def counted_shares(shares):
    """How many shares there are, and they."""
    told = [len(shares)]
    for share in shares:
        told.extend(share)
    return told
