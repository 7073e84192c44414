"""The least and the greatest moments that satisfy rules, or a ring of rules that none satisfy.

A list of moments has one for each edition and one more behind them, that of
the origin, so that the number -1 of the origin names it.
"""


def holds(rule, moments):
    """Whether moments satisfy a rule."""
    later, earlier, wait = rule
    return moments[later] >= moments[earlier] + wait


def least_moments(found, many):
    """The least moments of the editions that satisfy rules, or None."""
    moments = [0] * (many + 1)
    # Without a ring, each moment is told by at most one rule for each edition.
    for _ in range(many + 1):
        for later, earlier, wait in found:
            if moments[later] < moments[earlier] + wait:
                moments[later] = moments[earlier] + wait
    if not all([holds(rule, moments) for rule in found]):
        return None
    return moments[:many]


def greatest_moments(found, many):
    """The greatest moments of the editions that satisfy rules, None where there is no bound.

    There must be some that satisfy them.
    """
    bounds = [None] * many + [0]
    for _ in range(many + 1):
        for later, earlier, wait in found:
            if bounds[later] is None:
                continue
            if bounds[earlier] is None or bounds[earlier] > bounds[later] - wait:
                bounds[earlier] = bounds[later] - wait
    return bounds[:many]


def _ring_from(behind, start):
    """The rules that lead around, told by the rule that raised each moment last."""
    ring = []
    number = start
    while not ring or number != start:
        rule = behind[number]
        ring = [rule, *ring]
        number = rule[1]
    return ring


def ring_of(found, many):
    """A ring of rules, or None."""
    moments = [0] * (many + 1)
    behind = {}
    raised = None
    for _ in range(many + 1):
        raised = None
        for rule in found:
            if not holds(rule, moments):
                later, earlier, wait = rule
                moments[later] = moments[earlier] + wait
                behind[later] = rule
                raised = later
    if raised is None:
        return None
    # A moment that is still raised after so many rounds was raised along a
    # ring. As many steps back lead into it.
    for _ in range(many + 1):
        raised = behind[raised][1]
    return _ring_from(behind, raised)
