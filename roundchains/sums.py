"""What a walk wins on its way, on average."""

from roundchains.equations import solved


class Sums:
    """For each state what is won from there on, on average: a top, over one bottom for all."""

    def __init__(self, tops, bottom):
        self.tops = tops
        self.bottom = bottom


def sums_won(walk, unknowns, prizes):
    """What a walk wins that gets a state's prize, a whole number, wherever it is, until it stops.

    It stops, with the prize there, at every state that is no unknown. From each unknown there must
    be a way to such a state: so every leading square of the equations has a determinant above 0.
    """
    result = solved([sum_equation(walk, unknowns, number, prizes) for number in unknowns])
    bottom = result[1]
    tops = [prize * bottom for prize in prizes]
    for number, top in zip(unknowns, result[0]):
        tops[number] = top
    return Sums(tops, bottom)


def sum_equation(walk, unknowns, number, prizes):
    """The equation of a state: what is won is its prize, and what is won from the next state on."""
    factors = [0] * len(walk.rows)
    factors[number] = walk.totals[number]
    won = walk.totals[number] * prizes[number]
    for goal, share in walk.rows[number]:
        if goal in unknowns:
            factors[goal] -= share
        else:
            won += share * prizes[goal]
    return [factors[unknown] for unknown in unknowns] + [won]
