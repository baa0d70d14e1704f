"""Walks on a chain: where they are after some steps, and where they come to."""

from roundchains.equations import solved
from roundchains.ratios import greatest_divisor, least_multiple, lowest, lowest_over


class Walk:
    """A chain's chances in whole numbers, and what was found out about them.

    From each state there is a row of pairs: a state that a step of a chance above 0 comes to, and
    a whole number. That chance is this number divided by the row's total.
    """

    def __init__(self, rows, totals):
        self.rows = rows
        self.totals = totals
        self.columns = {}


def walk_of(chain):
    """The walk on a chain."""
    rows = [row_of(chain, number) for number in range(len(chain.names))]
    totals = [sum([share for goal, share in row]) for row in rows]
    return Walk(rows, totals)


def row_of(chain, number):
    """The row of a state; an end comes to itself."""
    steps = chain.steps[number]
    if len(steps) == 0:
        return [(number, 1)]
    shares = whole_shares(steps)
    return [(step[0], share) for step, share in zip(steps, shares) if share > 0]


def whole_shares(steps):
    """Whole numbers, as small as can be, that are to one another as the steps' weights are."""
    common = 1
    for goal, weight in steps:
        common = least_multiple(common, weight[1])
    shares = [weight[0] * (common // weight[1]) for goal, weight in steps]
    divisor = 0
    for share in shares:
        divisor = greatest_divisor(share, divisor)
    return [share // divisor for share in shares]


def chances(steps):
    """The chance of each of a state's steps, those of weight 0 too."""
    shares = whole_shares(steps)
    total = sum(shares)
    return [lowest(share, total) for share in shares]


def shares_after(walk, origin, count):
    """For each state the chance to be there after so many steps from a state."""
    tops = [0] * len(walk.rows)
    tops[origin] = 1
    bottom = 1
    for done in range(count):
        factor = factor_needed(walk, tops)
        tops = one_step(walk, tops, factor)
        bottom = bottom * factor
    base = 1
    for total in walk.totals:
        base = least_multiple(base, total)
    return [lowest_over(top, bottom, base) for top in tops]


def factor_needed(walk, tops):
    """The least factor that makes every state's top a multiple of its total.

    A top may be such a multiple already. A factor that is not needed would have to be taken out of
    the shares again in the end, when they are far longer.
    """
    factor = 1
    for top, total in zip(tops, walk.totals):
        factor = least_multiple(factor, total // greatest_divisor(top, total))
    return factor


def one_step(walk, tops, factor):
    """The tops after one step more, where their bottom becomes greater by the factor."""
    made = [0] * len(tops)
    for number, top in enumerate(tops):
        part = top * factor // walk.totals[number]
        for goal, share in walk.rows[number]:
            made[goal] += part * share
    return made


def chance_to_come(walk, origin, goal):
    """The chance ever to come from a state to a state."""
    column = come_column(walk, goal)
    return lowest(column[origin], column[goal])


def chance_back(walk, goal):
    """The chance to come back to a state that is no end, after one step or more."""
    column = come_column(walk, goal)
    top = sum([share * column[number] for number, share in walk.rows[goal]])
    return lowest(top, walk.totals[goal] * column[goal])


def come_column(walk, goal):
    """The tops of the chances to come to a state from each state; their one bottom is its own top.

    They are kept with the walk, for they are asked for again and again.
    """
    if goal not in walk.columns:
        walk.columns[goal] = found_column(walk, goal)
    return walk.columns[goal]


def found_column(walk, goal):
    """What come_column tells, worked out.

    Only the states from which the goal can be come to, and not the goal itself, are unknowns: so
    every leading square of their equations has a determinant above 0, as there is always a way out
    of its states.
    """
    unknowns = [number for number in origins_of(walk, goal) if number != goal]
    result = solved([come_equation(walk, unknowns, number, goal) for number in unknowns])
    column = [0] * len(walk.rows)
    for number, top in zip(unknowns, result[0]):
        column[number] = top
    column[goal] = result[1]
    return column


def come_equation(walk, unknowns, number, goal):
    """The equation of a state: its chance is that of the states of the next step, taken together."""
    factors = [0] * len(walk.rows)
    factors[number] = walk.totals[number]
    for target, share in walk.rows[number]:
        factors[target] -= share
    return [factors[unknown] for unknown in unknowns] + [-factors[goal]]


def origins_of(walk, goal):
    """The states from which a state can be come to, itself too, the least first."""
    found = [False] * len(walk.rows)
    found[goal] = True
    waiting = [goal]
    while len(waiting) > 0:
        target = waiting.pop()
        for number, row in enumerate(walk.rows):
            if not found[number] and leads_to(row, target):
                found[number] = True
                waiting.append(number)
    return [number for number in range(len(found)) if found[number]]


def leads_to(row, target):
    """Whether one of a row's steps comes to a state."""
    return any([goal == target for goal, share in row])
