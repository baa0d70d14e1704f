"""Classes: states that can be come to from one another."""

from roundchains.ratios import greatest_divisor


class StateClass:
    """A class: its states' numbers, the least first, and whether it is never left."""

    def __init__(self, states, closed):
        self.states = states
        self.closed = closed


def classes_of(ways):
    """All classes, in the order of their least states."""
    classes = []
    done = {}
    for number in range(len(ways)):
        if number not in done:
            found = class_around(ways, number)
            classes.append(found)
            for state in found.states:
                done[state] = True
    return classes


def class_around(ways, number):
    """The class of a state; it is closed if from each state that is come to there is a way back."""
    goals = [goal for goal in range(len(ways)) if ways[number][goal]]
    states = [goal for goal in goals if ways[goal][number]]
    return StateClass(states, len(states) == len(goals))


def closed_states(classes, count):
    """For each of so many states whether its class is closed."""
    closed = [False] * count
    for found in classes:
        for state in found.states:
            closed[state] = found.closed
    return closed


def period_of(rows, states):
    """The period of the class of these states.

    Each state gets the length of some way to it from the first one. A step's gap is how much longer
    the way with this step at its end is than the way that was taken to the same state. Along a way
    back the gaps add up to its number of steps, and each gap is the difference of two ways back: so
    the gaps have the same greatest divisor as the ways.
    """
    lengths = {states[0]: 0}
    waiting = [states[0]]
    divisor = 0
    while len(waiting) > 0:
        number = waiting.pop()
        for goal, share in rows[number]:
            if goal in lengths:
                divisor = greatest_divisor(divisor, lengths[number] + 1 - lengths[goal])
            elif goal in states:
                lengths[goal] = lengths[number] + 1
                waiting.append(goal)
    return divisor
