"""Walks on a chain: which ways there are, and where a walk is after some steps."""

from roundchains.classes import classes_of, closed_states
from roundchains.ratios import greatest_divisor, least_multiple, lowest, lowest_over, over_one_bottom
from roundchains.ways import ways_of


class Walk:
    """A chain's chances in whole numbers, and what was found out about them.

    From each state there is a row of pairs: a state that a step of a chance above 0 comes to, and
    a whole number. That chance is this number divided by the row's total. The ways tell for two
    states if the second can be come to from the first. What is worked out on the way to an answer
    is kept for the next one.
    """

    def __init__(self, chain, rows):
        self.rows = rows
        self.totals = [sum([share for goal, share in row]) for row in rows]
        self.ends = [len(steps) == 0 for steps in chain.steps]
        self.worths = chain.worths
        self.ways = ways_of(rows)
        self.classes = classes_of(self.ways)
        self.closed = closed_states(self.classes, len(rows))
        self.kept_come = {}
        self.kept_steps = {}
        self.kept_gain = None
        self.kept_steady = {}


def walk_of(chain):
    """The walk on a chain."""
    return Walk(chain, [row_of(chain, number) for number in range(len(chain.names))])


def row_of(chain, number):
    """The row of a state; an end comes to itself."""
    steps = chain.steps[number]
    if len(steps) == 0:
        return [(number, 1)]
    shares = whole_shares(steps)
    return [(step[0], share) for step, share in zip(steps, shares) if share > 0]


def whole_shares(steps):
    """Whole numbers, as small as can be, that are to one another as the steps' weights are."""
    shares = over_one_bottom([weight for goal, weight in steps])[0]
    divisor = 0
    for share in shares:
        divisor = greatest_divisor(share, divisor)
    return [share // divisor for share in shares]


def chances(steps):
    """The chance of each of a state's steps, those of weight 0 too."""
    shares = whole_shares(steps)
    total = sum(shares)
    return [lowest(share, total) for share in shares]


def shares_after(walk, origin, count):
    """For each state the chance to be there after so many steps from a state."""
    tops = [0] * len(walk.rows)
    tops[origin] = 1
    bottom = 1
    for done in range(count):
        factor = factor_needed(walk, tops)
        tops = one_step(walk, tops, factor)
        bottom = bottom * factor
    base = 1
    for total in walk.totals:
        base = least_multiple(base, total)
    return [lowest_over(top, bottom, base) for top in tops]


def factor_needed(walk, tops):
    """The least factor that makes every state's top a multiple of its total.

    A top may be such a multiple already. A factor that is not needed would have to be taken out of
    the shares again in the end, when they are far longer.
    """
    factor = 1
    for top, total in zip(tops, walk.totals):
        factor = least_multiple(factor, total // greatest_divisor(top, total))
    return factor


def one_step(walk, tops, factor):
    """The tops after one step more, where their bottom becomes greater by the factor."""
    made = [0] * len(tops)
    for number, top in enumerate(tops):
        part = top * factor // walk.totals[number]
        for goal, share in walk.rows[number]:
            made[goal] += part * share
    return made
