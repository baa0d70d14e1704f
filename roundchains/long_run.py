"""The long run: what share of its time a walk spends where."""

from roundchains.equations import solved
from roundchains.ratios import ZERO, lowest, product
from roundchains.visits import chance_to_come


def steady_shares(walk, number):
    """The steady shares of the states of a closed class, told by the class's number."""
    if number not in walk.kept_steady:
        walk.kept_steady[number] = found_steady(walk, walk.classes[number].states)
    return walk.kept_steady[number]


def found_steady(walk, states):
    """What steady_shares tells, worked out.

    The unknowns are, for all states but the first, the share divided by the state's total, if that
    of the first state is 1. As the first one can be come to from all others, every leading square
    of their equations has a determinant above 0.
    """
    result = solved([steady_equation(walk, states, goal) for goal in states[1:]])
    flows = [result[1]] + result[0]
    parts = [flow * walk.totals[state] for flow, state in zip(flows, states)]
    whole = sum(parts)
    return [lowest(part, whole) for part in parts]


def steady_equation(walk, states, goal):
    """The equation of a state: what a step takes away from it, a step brings there."""
    factors = [-weight_between(walk, state, goal) for state in states]
    factors[states.index(goal)] += walk.totals[goal]
    return factors[1:] + [-factors[0]]


def weight_between(walk, origin, goal):
    """The whole number of the step from a state to a state; 0 if there is none."""
    return sum([share for number, share in walk.rows[origin] if number == goal])


def long_shares(walk, origin):
    """The long run shares of all states from a state.

    The states of a closed class are all come to if one of them is, so the first stands for all.
    """
    shares = [ZERO] * len(walk.rows)
    for number, found in enumerate(walk.classes):
        if found.closed:
            chance = chance_to_come(walk, origin, found.states[0])
            for state, share in zip(found.states, steady_shares(walk, number)):
                shares[state] = product(chance, share)
    return shares
