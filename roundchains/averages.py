"""Averages: the steps until a state is come to, and what all visits are worth together."""

from roundchains.ratios import ZERO, lowest, over_one_bottom
from roundchains.sums import Sums, sums_won
from roundchains.visits import visited_without_end
from roundchains.ways import reached


def may_miss(walk, origin, goals):
    """Whether it may be that none of the goals is ever come to from a state.

    That is so if the walk, before it is at a goal, can be where no way leads to one.
    """
    halted = [[] if number in goals else row for number, row in enumerate(walk.rows)]
    found = reached(halted, origin)
    for number, ways in enumerate(walk.ways):
        if found[number] and not any([ways[goal] for goal in goals]):
            return True
    return False


def steps_until(walk, origin, goals):
    """How many steps it takes, on average, from a state that may not miss the goals to one of them."""
    key = tuple(sorted(goals))
    if key not in walk.kept_steps:
        walk.kept_steps[key] = found_step_sums(walk, goals)
    sums = walk.kept_steps[key]
    return lowest(sums.tops[origin], sums.bottom)


def found_step_sums(walk, goals):
    """The steps from each state that may not miss the goals: a prize of 1 ahead of each step."""
    unknowns = []
    prizes = [0] * len(walk.rows)
    for number in range(len(walk.rows)):
        if number not in goals and not may_miss(walk, number, goals):
            unknowns.append(number)
            prizes[number] = 1
    return sums_won(walk, unknowns, prizes)


def gain_without_end(walk, origin):
    """Whether a state that is worth something is visited without end from a state."""
    for number, worth in enumerate(walk.worths):
        if worth != ZERO and visited_without_end(walk, origin, number):
            return True
    return False


def gain_from(walk, origin):
    """What all visits are worth together from a state, where that is not without end."""
    if walk.kept_gain is None:
        walk.kept_gain = found_gain_sums(walk)
    return lowest(walk.kept_gain.tops[origin], walk.kept_gain.bottom)


def found_gain_sums(walk):
    """The gains from all states at once; where one is without end, what stands here means nothing.

    The walk may be stopped where it comes into a closed class: what is there is an end, or worth
    nothing, as the gain would else be without end.
    """
    whole_worths = over_one_bottom(walk.worths)
    unknowns = [number for number, closed in enumerate(walk.closed) if not closed]
    sums = sums_won(walk, unknowns, whole_worths[0])
    return Sums(sums.tops, sums.bottom * whole_worths[1])
