"""Exact fractions: pairs (top, bottom) in lowest terms, with a bottom above 0."""

ZERO = (0, 1)


def greatest_divisor(one, other):
    """The greatest whole number that divides both; that of 0 and a number is the number."""
    one = abs(one)
    other = abs(other)
    while other > 0:
        rest = one % other
        one = other
        other = rest
    return one


def least_multiple(one, other):
    """The least number above 0 that both, above 0 themselves, divide."""
    return one // greatest_divisor(one, other) * other


def lowest(top, bottom):
    """The fraction of two whole numbers, the second above 0."""
    shared = greatest_divisor(top, bottom)
    return (top // shared, bottom // shared)


def lowest_over(top, bottom, base):
    """The same as lowest, where every prime of the bottom divides the base.

    A bottom of many steps has far more digits than its base. A prime that top and bottom share
    divides the base too, so it is found with divisors no longer than the base.
    """
    if top == 0:
        return ZERO
    shared = shared_by_three(base, top, bottom)
    while shared > 1:
        top = top // shared
        bottom = bottom // shared
        shared = shared_by_three(shared, top, bottom)
    return (top, bottom)


def over_one_bottom(ratios):
    """The tops of fractions over the least bottom that they can have together, and this bottom."""
    bottom = 1
    for ratio in ratios:
        bottom = least_multiple(bottom, ratio[1])
    return ([ratio[0] * (bottom // ratio[1]) for ratio in ratios], bottom)


def product(one, other):
    """Two fractions multiplied. Only across can they share a divisor, and so it is asked of short numbers."""
    left = lowest(one[0], other[1])
    right = lowest(other[0], one[1])
    return (left[0] * right[0], left[1] * right[1])


def shared_by_three(short, one, other):
    """The greatest divisor of all three, asked of the short number first so that it stays short."""
    shared = greatest_divisor(one, short)
    if shared == 1:
        return 1
    return greatest_divisor(other, shared)


def written(ratio):
    """A fraction's one form."""
    top = ratio[0]
    bottom = ratio[1]
    if bottom == 1:
        return str(top)
    return f"{top}/{bottom}"
