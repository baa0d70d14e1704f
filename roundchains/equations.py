"""Equations in whole numbers, solved exactly."""


def solved(equations):
    """Solve as many equations as there are unknowns: the tops of all unknowns, and their one bottom.

    An equation has the unknowns' factors, and behind them what they add up to. No leading square
    of the factors may have the determinant 0. All numbers stay whole: each is a determinant of
    some of the equations, so the lead before divides it without a rest.
    """
    stairs = []
    left = equations
    before = 1
    while len(left) > 0:
        first = left[0]
        stairs.append(first)
        left = [shortened(equation, first, before) for equation in left[1:]]
        before = first[0]
    return (climbed(stairs, before), before)


def shortened(equation, first, before):
    """An equation without its first unknown."""
    lead = first[0]
    factor = equation[0]
    return [(lead * one - factor * other) // before for one, other in zip(equation[1:], first[1:])]


def climbed(stairs, bottom):
    """The tops of all unknowns, from equations each of which has one unknown less than that before it."""
    tops = []
    for equation in reversed(stairs):
        known = sum([factor * top for factor, top in zip(equation[1:-1], tops)])
        tops = [(bottom * equation[-1] - known) // equation[0]] + tops
    return tops
