"""Ways from state to state, by steps of chances above 0."""


def ways_of(rows):
    """For each state, for each state: whether the second can be come to from the first."""
    return [reached(rows, number) for number in range(len(rows))]


def reached(rows, origin):
    """For each state whether it can be come to from this one, which is come to itself."""
    found = [False] * len(rows)
    found[origin] = True
    waiting = [origin]
    while len(waiting) > 0:
        number = waiting.pop()
        for goal, share in rows[number]:
            if not found[goal]:
                found[goal] = True
                waiting.append(goal)
    return found
