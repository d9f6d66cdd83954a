"""Rows: a text seen as rows, each but the last ended by a sign that belongs to none."""

ROW_END = "/"


def rows_of(text):
    """The rows of a text, a list of texts."""
    return text.split(ROW_END)


def row_at(text, place):
    """The number of the row in which a place lies, and how many signs of the row are ahead of it."""
    # A row's end at the place itself is not ahead of it, so the place still lies in that row.
    ahead = rows_of(text[:place])
    return (len(ahead) - 1, len(ahead[-1]))


def first_of(text, number):
    """The first place of the row of that number; None where there is no such row."""
    rows = rows_of(text)
    if number < 0 or number >= len(rows):
        return None
    return sum([len(row) + len(ROW_END) for row in rows[:number]])
