"""A day: deeds done one by one on a bench that begins with free cells alone."""

from gapbench.bench import laid, less_ahead, less_behind, moved, put_all, signs_ahead, signs_behind, text_of
from gapbench.rows import first_of

CELLS_AT_FIRST = 4
DEEDS_TO_UNDO = ("put", "rub", "clear")


def rubbed(bench, many):
    """The bench without so many signs ahead of the hand; None where there are fewer."""
    if many > len(signs_ahead(bench)):
        return None
    return less_ahead(bench, many)


def cleared(bench, many):
    """The bench without so many signs behind the hand; None where there are fewer."""
    if many > len(signs_behind(bench)):
        return None
    return less_behind(bench, many)


def gone(bench, place):
    """The bench with the hand at a place; None where there is no such place."""
    if place < 0 or place > len(text_of(bench)):
        return None
    return moved(bench, place)


def gone_to_row(bench, number):
    """The bench with the hand at the first place of a row; None where there is no such row."""
    place = first_of(text_of(bench), number)
    if place is None:
        return None
    return moved(bench, place)


def bench_after(bench, deed):
    """The bench behind a deed other than undo; None where the deed is refused."""
    kind = deed[0]
    if kind == "put":
        return put_all(bench, deed[1])
    if kind == "rub":
        return rubbed(bench, deed[1])
    if kind == "clear":
        return cleared(bench, deed[1])
    if kind == "go":
        return gone(bench, deed[1])
    return gone_to_row(bench, deed[1])


def state_of(bench):
    """The text of a bench and the place of the hand."""
    return (text_of(bench), bench[1])


class Day:
    """A bench, and the states ahead of the deeds on it that can still be undone."""

    def __init__(self):
        self.bench = laid([], [], CELLS_AT_FIRST)
        self.past = []

    def does(self, deed):
        """Do a deed: True; or False, and nothing has changed, where it is refused."""
        if deed[0] == "undo":
            return self.undoes()
        bench = bench_after(self.bench, deed)
        if bench is None:
            return False
        if deed[0] in DEEDS_TO_UNDO:
            self.past.append(state_of(self.bench))
        self.bench = bench
        return True

    def undoes(self):
        """Undo the last deed that can be undone: True; or False where there is none."""
        if len(self.past) == 0:
            return False
        state = self.past.pop()
        text = state[0]
        hand = state[1]
        # The earlier text lay on this bench, and a bench never gets shorter: there is room for it.
        self.bench = laid(list(text[:hand]), list(text[hand:]), len(self.bench[0]))
        return True


def answers(deeds):
    """True for each deed that is done, False for each that is refused."""
    day = Day()
    return [day.does(deed) for deed in deeds]


def states(deeds):
    """The text and the hand's place behind each deed."""
    day = Day()
    found = []
    for deed in deeds:
        day.does(deed)
        found.append(state_of(day.bench))
    return found


def bench_behind(deeds):
    """The bench behind a day."""
    day = Day()
    for deed in deeds:
        day.does(deed)
    return day.bench
