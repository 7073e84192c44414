"""What reports of a service tell of how long it can hold an edition.

Reports are a dict whose keys are the reported moments.
"""


def _first_after(reports, moment):
    """The first report that is after a moment, or None."""
    found = None
    for report in reports:
        if report > moment and (found is None or report < found):
            found = report
    return found


def _last_without_reading(reports, moment, gap):
    """The last moment until which a machine that pulled at a moment can go on without another pull."""
    first = _first_after(reports, moment)
    last = moment + gap - 1
    return last if first is None or first > last else first - 1


def _last_unreported(reports, least, most):
    """The greatest moment from the least to the most that is not reported, or None."""
    # Each step passes a report, so that these are few.
    moment = most
    while moment in reports:
        moment = moment - 1
    return moment if moment >= least else None


def last_holding(kind, reports, published):
    """The last moment at which a service can hold an edition if the next one is published at a moment."""
    last = _last_without_reading(reports, published - 1, kind.gap)
    if kind.age is None:
        return last
    # It begins from its last copy then, but not where it is known to read.
    begun = _last_unreported(reports, last, last + kind.age)
    return last if begun is None else _last_without_reading(reports, begun, kind.gap)
