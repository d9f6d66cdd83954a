"""Points 1 and 8: a day, and the functions of gapbench.day."""

import copy
import itertools
import random
import unittest

from gapbench.day import answers, bench_behind, states


class PlainDay:
    """The words of point 8 once more, by the text, the hand and the number of cells alone."""

    def __init__(self):
        self.text, self.hand, self.size, self.past = "", 0, 4, []

    def put(self, text):
        for sign in text:
            if self.size == len(self.text):
                self.size = 2 * self.size + 4
            self.text = self.text[:self.hand] + sign + self.text[self.hand:]
            self.hand += 1

    def row_firsts(self):
        return [0] + [at + 1 for at, sign in enumerate(self.text) if sign == "/"]

    def refused(self, kind, value):
        return {
            "put": lambda: False,
            "rub": lambda: value > self.hand,
            "clear": lambda: value > len(self.text) - self.hand,
            "go": lambda: value not in range(len(self.text) + 1),
            "row": lambda: value not in range(len(self.row_firsts())),
            "undo": lambda: not self.past,
        }[kind]()

    def do(self, deed):
        kind, value = deed[0], deed[-1]
        if self.refused(kind, value):
            return False
        if kind in ("put", "rub", "clear"):
            self.past.append((self.text, self.hand))
        if kind == "put":
            self.put(value)
        elif kind == "rub":
            self.text = self.text[:self.hand - value] + self.text[self.hand:]
            self.hand -= value
        elif kind == "clear":
            self.text = self.text[:self.hand] + self.text[self.hand + value:]
        elif kind == "go":
            self.hand = value
        elif kind == "row":
            self.hand = self.row_firsts()[value]
        else:
            self.text, self.hand = self.past.pop()
        return True

    def bench(self):
        gap = self.size - len(self.text)
        cells = list(self.text[:self.hand]) + [None] * gap + list(self.text[self.hand:])
        return (cells, self.hand, self.hand + gap)


class DayCase(unittest.TestCase):
    def check(self, deeds, done=None, seen=None, size=None):
        """See that all three answers are as the plain day's, and that the deeds stay."""
        before = copy.deepcopy(deeds)
        plain = PlainDay()
        plain_done, plain_seen = [], []
        for deed in deeds:
            plain_done.append(plain.do(deed))
            plain_seen.append((plain.text, plain.hand))
        found_done, found_seen, bench = answers(deeds), states(deeds), bench_behind(deeds)
        self.assertEqual(deeds, before)
        self.assertEqual(found_done, plain_done, deeds)
        self.assertEqual(found_seen, plain_seen, deeds)
        self.assertEqual(bench, plain.bench(), deeds)
        if done is not None:
            self.assertEqual(found_done, done)
        if seen is not None:
            self.assertEqual(found_seen, seen)
        if size is not None:
            self.assertEqual(len(bench[0]), size)


class Form(DayCase):
    def test_a_day_without_deeds(self):
        self.assertEqual(answers([]), [])
        self.assertEqual(states([]), [])
        self.assertEqual(bench_behind([]), ([None, None, None, None], 0, 4))

    def test_kinds(self):
        deeds = [("put", "a/b"), ("rub", 9), ("undo",), ("undo",)]
        done, seen, bench = answers(deeds), states(deeds), bench_behind(deeds)
        self.assertIs(type(done), list)
        self.assertTrue(all(one is True or one is False for one in done))
        self.assertIs(type(seen), list)
        self.assertEqual([type(one) for one in seen], [tuple] * 4)
        self.assertEqual([(type(text), type(hand)) for text, hand in seen], [(str, int)] * 4)
        self.assertEqual([type(one) for one in (bench,) + bench], [tuple, list, int, int])

    def test_each_day_is_its_own(self):
        deeds = [("put", "ab")]
        first = bench_behind(deeds)
        first[0][0] = "z"
        bench_behind([])[0].append("z")
        self.assertEqual(bench_behind(deeds), (["a", "b", None, None], 2, 4))
        self.assertEqual(bench_behind([]), ([None] * 4, 0, 4))
        self.assertEqual(answers([("undo",)]), [False])


class Put(DayCase):
    def test_at_the_hand(self):
        self.check([("put", "ad"), ("go", 1), ("put", "bc")], [True] * 3, [("ad", 2), ("ad", 1), ("abcd", 3)], 4)

    def test_an_empty_text(self):
        self.check([("put", "")], [True], [("", 0)], 4)
        self.check([("put", "abcd"), ("put", "")], [True, True], [("abcd", 4), ("abcd", 4)], 4)

    def test_how_many_cells(self):
        for length, size in ((3, 4), (4, 4), (5, 12), (12, 12), (13, 28), (28, 28), (29, 60), (60, 60), (61, 124)):
            self.check([("put", "x" * length)], [True], [("x" * length, length)], size)
            self.check([("put", "x")] * length, [True] * length, None, size)

    def test_the_new_cells_lie_at_the_hand(self):
        deeds = [("put", "abcd"), ("go", 1), ("put", "x")]
        self.assertEqual(bench_behind(deeds), (["a", "x"] + [None] * 7 + ["b", "c", "d"], 2, 9))

    def test_every_ascii_sign(self):
        signs = "".join(chr(code) for code in range(128))
        self.check([("put", signs), ("rub", 3), ("undo",), ("row", 1), ("clear", 80), ("undo",)], [True] * 6)

    def test_ten_thousand_signs_and_some_more(self):
        text = "abcdefghi/" * 1001
        deeds = [("put", text), ("go", 5000), ("clear", 5010), ("undo",), ("rub", 5000), ("undo",), ("row", 1001)]
        self.check(deeds + [("put", "end"), ("undo",), ("undo",), ("undo",)], [True] * 10 + [False])


class RubAndClear(DayCase):
    def test_rub(self):
        start = [("put", "abcd"), ("go", 3)]
        for many, done, state in ((0, True, ("abcd", 3)), (1, True, ("abd", 2)), (3, True, ("d", 0)),
                                  (4, False, ("abcd", 3)), (5, False, ("abcd", 3)), (10 ** 30, False, ("abcd", 3))):
            self.check(start + [("rub", many)], [True, True, done], [("abcd", 4), ("abcd", 3), state], 4)

    def test_clear(self):
        start = [("put", "abcd"), ("go", 1)]
        for many, done, state in ((0, True, ("abcd", 1)), (1, True, ("acd", 1)), (3, True, ("a", 1)),
                                  (4, False, ("abcd", 1)), (5, False, ("abcd", 1)), (10 ** 30, False, ("abcd", 1))):
            self.check(start + [("clear", many)], [True, True, done], [("abcd", 4), ("abcd", 1), state], 4)

    def test_on_the_empty_text(self):
        self.check([("rub", 0), ("clear", 0), ("rub", 1), ("clear", 1)], [True, True, False, False], [("", 0)] * 4, 4)

    def test_cells_stay_when_signs_are_taken_out(self):
        self.check([("put", "abcde"), ("rub", 5)], [True, True], [("abcde", 5), ("", 0)], 12)
        self.check([("put", "abcde"), ("go", 0), ("clear", 5)], [True] * 3, None, 12)


class GoAndRow(DayCase):
    def test_go(self):
        for place in (-10 ** 30, -5, -4, -1, 0, 1, 3, 4, 5, 10 ** 30):
            done = 0 <= place <= 4
            state = ("abcd", place if done else 2)
            self.check([("put", "abcd"), ("go", 2), ("go", place)], [True, True, done],
                       [("abcd", 4), ("abcd", 2), state], 4)

    def test_row(self):
        firsts = {0: 0, 1: 3, 2: 4, 3: 6}
        for number in (-10 ** 30, -4, -3, -1, 0, 1, 2, 3, 4, 5, 10 ** 30):
            state = ("ab//c/", firsts.get(number, 5))
            self.check([("put", "ab//c/"), ("go", 5), ("row", number)], [True, True, number in firsts],
                       [("ab//c/", 6), ("ab//c/", 5), state], 12)

    def test_on_the_empty_text(self):
        self.check([("go", 0), ("row", 0), ("go", 1), ("row", 1), ("go", -1), ("row", -1)],
                   [True, True, False, False, False, False], [("", 0)] * 6, 4)


class Undo(DayCase):
    def test_nothing_to_undo(self):
        self.check([("undo",)], [False], [("", 0)], 4)
        self.check([("undo",), ("undo",), ("put", "a")], [False, False, True], None, 4)
        self.check([("go", 0), ("row", 0), ("rub", 1), ("go", 7), ("undo",)], [True, True, False, False, False])

    def test_each_deed(self):
        start = [("put", "abcd"), ("go", 2)]
        for deed in (("put", "xyz"), ("put", ""), ("rub", 2), ("rub", 0), ("clear", 2), ("clear", 1), ("clear", 0)):
            seen = states(start + [deed, ("undo",)])
            self.assertEqual(seen[-1], ("abcd", 2))
            self.check(start + [deed, ("undo",)], [True] * 4)
            self.check(start + [deed, ("undo",), ("undo",), ("undo",)], [True] * 5 + [False])

    def test_empty_deeds_are_undone_like_the_others(self):
        self.check([("put", "ab"), ("put", ""), ("rub", 0), ("clear", 0)] + [("undo",)] * 5, [True] * 8 + [False],
                   [("ab", 2)] * 7 + [("", 0)] * 2, 4)

    def test_an_empty_deed_brings_the_hand_back(self):
        for deed in (("put", ""), ("rub", 0), ("clear", 0)):
            self.check([("put", "abc"), ("go", 1), deed, ("go", 3), ("undo",)], [True] * 5,
                       [("abc", 3), ("abc", 1), ("abc", 1), ("abc", 3), ("abc", 1)])

    def test_several_in_a_row(self):
        self.check([("put", "ab"), ("put", "cd"), ("go", 1), ("clear", 2), ("rub", 1)] + [("undo",)] * 5,
                   [True] * 9 + [False],
                   [("ab", 2), ("abcd", 4), ("abcd", 1), ("ad", 1), ("d", 0),
                    ("ad", 1), ("abcd", 1), ("ab", 2), ("", 0), ("", 0)], 4)

    def test_behind_a_refused_deed(self):
        for refused in (("rub", 3), ("clear", 1), ("go", 3), ("go", -1), ("row", 1), ("row", -1)):
            self.check([("put", "a"), ("put", "b"), refused, ("undo",)], [True, True, False, True],
                       [("a", 1), ("ab", 2), ("ab", 2), ("a", 1)])

    def test_when_the_hand_has_gone_elsewhere(self):
        for place in range(5):
            for deed in (("put", "x"), ("rub", 1), ("clear", 1)):
                self.check([("put", "abcde"), ("go", 2), deed, ("go", place), ("undo",)], [True] * 5)
        self.check([("put", "a/b"), ("row", 0), ("undo",)], [True] * 3, [("a/b", 3), ("a/b", 0), ("", 0)])

    def test_going_is_not_undone(self):
        self.check([("put", "abc"), ("go", 0), ("row", 0), ("undo",), ("undo",)], [True] * 4 + [False])

    def test_an_undo_is_not_undone(self):
        self.check([("put", "a"), ("undo",), ("undo",), ("put", "b"), ("undo",), ("undo",)],
                   [True, True, False, True, True, False])

    def test_new_deeds_behind_an_undo(self):
        self.check([("put", "a"), ("put", "b"), ("undo",), ("put", "c"), ("undo",), ("undo",), ("undo",)],
                   [True] * 6 + [False],
                   [("a", 1), ("ab", 2), ("a", 1), ("ac", 2), ("a", 1), ("", 0), ("", 0)])

    def test_cells_stay(self):
        self.check([("put", "abcde"), ("undo",)], [True, True], [("abcde", 5), ("", 0)], 12)
        self.check([("put", "abcd"), ("rub", 4), ("undo",)], [True] * 3, None, 4)
        self.check([("put", "abcde"), ("undo",), ("put", "x" * 12)], [True] * 3, None, 12)
        self.check([("put", "abcde"), ("undo",), ("put", "x" * 13), ("undo",), ("undo",)], [True] * 4 + [False],
                   None, 28)

    def test_the_bench_behind_an_undo(self):
        deeds = [("put", "abcd"), ("go", 1), ("put", "x"), ("go", 4), ("undo",)]
        self.assertEqual(bench_behind(deeds), (["a"] + [None] * 8 + ["b", "c", "d"], 1, 9))


class ManyDays(DayCase):
    def test_every_short_day(self):
        kinds = [("put", "a/"), ("put", ""), ("rub", 1), ("clear", 1), ("go", 1), ("row", 1), ("undo",)]
        for length in range(5):
            for deeds in itertools.product(kinds, repeat=length):
                self.check([("put", "bcd")] + list(deeds))

    def test_long_days(self):
        # A written seed: the same days each time.
        rng = random.Random(8)
        for number in range(150):
            self.check([self.some_deed(rng) for step in range(60)])

    def some_deed(self, rng):
        kind = rng.choice(("put", "put", "put", "rub", "clear", "go", "row", "undo", "undo"))
        if kind == "put":
            return ("put", "".join(rng.choice("abc/ ~") for step in range(rng.randrange(9))))
        if kind == "undo":
            return ("undo",)
        return (kind, rng.randrange(6) if kind in ("rub", "clear") else rng.randrange(-3, 25))


if __name__ == "__main__":
    unittest.main()
