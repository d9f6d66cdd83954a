"""Point 7: rows, and the functions of gapbench.rows."""

import itertools
import unittest

from gapbench.rows import first_of, row_at, rows_of

# Each text with its rows, and with the row and the signs ahead for each of its places.
WRITTEN_OUT = (
    ("", [""], [(0, 0)]),
    ("a", ["a"], [(0, 0), (0, 1)]),
    ("ab c", ["ab c"], [(0, 0), (0, 1), (0, 2), (0, 3), (0, 4)]),
    ("/", ["", ""], [(0, 0), (1, 0)]),
    ("/a", ["", "a"], [(0, 0), (1, 0), (1, 1)]),
    ("a/", ["a", ""], [(0, 0), (0, 1), (1, 0)]),
    ("//", ["", "", ""], [(0, 0), (1, 0), (2, 0)]),
    ("ab/c", ["ab", "c"], [(0, 0), (0, 1), (0, 2), (1, 0), (1, 1)]),
    ("a///b/", ["a", "", "", "b", ""], [(0, 0), (0, 1), (1, 0), (2, 0), (3, 0), (3, 1), (4, 0)]),
)


def short_texts():
    for length in range(7):
        for signs in itertools.product("a/b" if length < 5 else "a/", repeat=length):
            yield "".join(signs)


def row_by_the_words(text, place):
    """The row whose end, or the text's end, is the first one at the place or behind it."""
    ends = [at for at, sign in enumerate(text) if sign == "/"] + [len(text)]
    number = next(k for k, end in enumerate(ends) if end >= place)
    first = ends[number - 1] + 1 if number else 0
    return (number, place - first)


class RowsOf(unittest.TestCase):
    def test_written_out(self):
        for text, rows, places in WRITTEN_OUT:
            self.assertEqual(rows_of(text), rows)

    def test_one_row_more_than_row_ends(self):
        for text in short_texts():
            rows = rows_of(text)
            self.assertIs(type(rows), list)
            self.assertEqual(len(rows), text.count("/") + 1)
            self.assertEqual("/".join(rows), text)
            self.assertFalse(any("/" in row for row in rows))

    def test_only_that_sign_ends_a_row(self):
        self.assertEqual(rows_of("a\\b|c d\ne\tf"), ["a\\b|c d\ne\tf"])
        self.assertEqual(rows_of(" / "), [" ", " "])

    def test_each_call_gives_its_own_list(self):
        rows_of("a/b").append("c")
        self.assertEqual(rows_of("a/b"), ["a", "b"])


class RowAt(unittest.TestCase):
    def test_written_out(self):
        for text, rows, places in WRITTEN_OUT:
            self.assertEqual([row_at(text, place) for place in range(len(text) + 1)], places)

    def test_each_place_as_the_words_say(self):
        for text in short_texts():
            for place in range(len(text) + 1):
                back = row_at(text, place)
                self.assertIs(type(back), tuple)
                self.assertEqual(back, row_by_the_words(text, place))

    def test_a_long_text(self):
        text = "abc/" * 2600
        self.assertEqual(row_at(text, len(text)), (2600, 0))
        self.assertEqual(row_at(text, len(text) - 1), (2599, 3))


class FirstOf(unittest.TestCase):
    def test_each_row(self):
        for text in short_texts():
            firsts = [0] + [at + 1 for at, sign in enumerate(text) if sign == "/"]
            self.assertEqual([first_of(text, number) for number in range(len(firsts))], firsts)
            for number, first in enumerate(firsts):
                self.assertEqual(row_at(text, first), (number, 0))

    def test_no_such_row(self):
        for text, rows, places in WRITTEN_OUT:
            for number in (len(rows), len(rows) + 1, 10 ** 9, 2 ** 63, 10 ** 300):
                self.assertIsNone(first_of(text, number))
            for number in (-1, -2, -len(rows), -len(rows) - 1, -2 ** 63, -10 ** 300):
                self.assertIsNone(first_of(text, number))

    def test_written_out(self):
        self.assertEqual(first_of("", 0), 0)
        self.assertEqual([first_of("ab//c/", number) for number in range(5)], [0, 3, 4, 6, None])


if __name__ == "__main__":
    unittest.main()
