"""Visits: the chance of one, the chance of one more, and how many there are on average."""

from roundchains.ratios import ZERO, lowest
from roundchains.sums import sums_won


def chance_to_come(walk, origin, goal):
    """The chance ever to come from a state to a state."""
    sums = come_sums(walk, goal)
    return lowest(sums.tops[origin], sums.bottom)


def chance_back(walk, goal):
    """The chance to visit a state again, after one step or more; an end is visited once."""
    if walk.ends[goal]:
        return ZERO
    return lowest(top_back(walk, goal), walk.totals[goal] * come_sums(walk, goal).bottom)


def visited_without_end(walk, origin, goal):
    """Whether a state is visited again and again from a state, for ever."""
    return walk.ways[origin][goal] and walk.closed[goal] and not walk.ends[goal]


def visits_at(walk, origin, goal):
    """How many visits there are at a state from a state, on average, where they are not without end.

    They are as many as the chance to come there, divided by the chance not to come back.
    """
    if walk.ends[goal] or not walk.ways[origin][goal]:
        return chance_to_come(walk, origin, goal)
    sums = come_sums(walk, goal)
    total = walk.totals[goal]
    return lowest(total * sums.tops[origin], total * sums.bottom - top_back(walk, goal))


def top_back(walk, goal):
    """The top of the chance to come back to a state, over its total times the bottom to come there."""
    tops = come_sums(walk, goal).tops
    return sum([share * tops[number] for number, share in walk.rows[goal]])


def come_sums(walk, goal):
    """The chances to come to a state from each state: what is won if the prize is 1 there alone.

    They are kept with the walk, for they are asked for again and again.
    """
    if goal not in walk.kept_come:
        walk.kept_come[goal] = found_come_sums(walk, goal)
    return walk.kept_come[goal]


def found_come_sums(walk, goal):
    """What come_sums tells, worked out. From a state without a way to the goal nothing is won."""
    prizes = [0] * len(walk.rows)
    prizes[goal] = 1
    unknowns = [number for number, ways in enumerate(walk.ways) if ways[goal] and number != goal]
    return sums_won(walk, unknowns, prizes)
