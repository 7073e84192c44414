"""When editions are held, jumped over and met, told by moments and latenesses alone.

A list of moments has one for each edition. Nothing is checked here.
"""

from gaplesskeys.ranges import Range


def span(moments, number, delay):
    """The range from an edition's moment until a delay after the next one's moment."""
    if number + 1 == len(moments):
        return Range(moments[number], None)
    return Range(moments[number], moments[number + 1] + delay)


def held_span(moments, number, lateness):
    """The held range of an edition, of a kind with this lateness."""
    return span(moments, number, lateness - 2)


def last_jump(moments, early, lateness):
    """The last moment at which a holder of an edition that is not the last one pulls."""
    return moments[early + 1] + lateness - 1


def jump_pairs(moments, lateness):
    """The jumps of a kind with this lateness, sorted."""
    found = []
    for early in range(len(moments) - 1):
        last = last_jump(moments, early, lateness)
        for late in range(early + 1, len(moments)):
            if moments[late] <= last:
                found.append((early, late))
    return found


def shown_span(moments, number, lateness, life):
    """When credentials can be shown that clients made in an edition."""
    return span(moments, number, lateness - 2 + life)
