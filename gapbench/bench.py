"""Benches: cells in a row, with a gap of free cells where the hand is.

A bench is a tuple (cells, start, stop); the gap lies from start up to the cell ahead of stop.
"""

MORE_CELLS = 4


def signs_ahead(bench):
    """The signs ahead of the hand, a new list."""
    return bench[0][:bench[1]]


def signs_behind(bench):
    """The signs behind the hand, a new list."""
    return bench[0][bench[2]:]


def laid(ahead, behind, size):
    """The bench of so many cells that has the hand between two lists of signs."""
    start = len(ahead)
    stop = size - len(behind)
    return (ahead + [None] * (stop - start) + behind, start, stop)


def size_for(size, signs):
    """How many cells a bench of a size has once so many signs lie on it."""
    while size < signs:
        size = size + size + MORE_CELLS
    return size


def text_of(bench):
    """The text of a bench."""
    return "".join(signs_ahead(bench) + signs_behind(bench))


def moved(bench, place):
    """The bench with the hand at a place of its text."""
    signs = signs_ahead(bench) + signs_behind(bench)
    return laid(signs[:place], signs[place:], len(bench[0]))


def put_all(bench, text):
    """The bench with the signs of a text put in one behind the other."""
    # All at once: a bench for each sign would copy every cell as often as the text has signs.
    ahead = signs_ahead(bench) + list(text)
    behind = signs_behind(bench)
    return laid(ahead, behind, size_for(len(bench[0]), len(ahead) + len(behind)))


def put_in(bench, sign):
    """The bench with a sign put in at the hand."""
    return put_all(bench, sign)


def less_ahead(bench, many):
    """The bench without so many signs ahead of the hand; there are as many."""
    ahead = signs_ahead(bench)
    return laid(ahead[:len(ahead) - many], signs_behind(bench), len(bench[0]))


def less_behind(bench, many):
    """The bench without so many signs behind the hand; there are as many."""
    behind = signs_behind(bench)
    return laid(signs_ahead(bench), behind[many:], len(bench[0]))


def taken_ahead(bench):
    """The bench without the sign ahead of the hand."""
    return less_ahead(bench, 1)


def taken_behind(bench):
    """The bench without the sign behind the hand."""
    return less_behind(bench, 1)
