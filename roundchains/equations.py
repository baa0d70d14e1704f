"""Equations in whole numbers, solved exactly."""


def solved(equations):
    """Solve as many equations as there are unknowns: the tops of all unknowns, and their one bottom.

    An equation has the unknowns' factors, and behind them what they add up to. No leading square
    of the factors may have the determinant 0. All numbers stay whole: each is a determinant of
    some of the equations, so the pivot before divides it without a rest.
    """
    left = equations
    before = 1
    for pivot in range(len(equations)):
        left = cleared(left, pivot, before)
        before = left[pivot][pivot]
    return ([equation[-1] for equation in left], before)


def cleared(equations, pivot, before):
    """The equations without the unknown of this number, but in the equation of this number."""
    chosen = equations[pivot]
    lead = chosen[pivot]
    made = []
    for number, equation in enumerate(equations):
        if number == pivot:
            made.append(equation)
        else:
            factor = equation[pivot]
            made.append([(lead * one - factor * other) // before for one, other in zip(equation, chosen)])
    return made
