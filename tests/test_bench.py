"""Points 1 to 6: benches, and the functions of gapbench.bench."""

import copy
import unittest

from gapbench.bench import moved, put_in, taken_ahead, taken_behind, text_of


def made(text, hand, gap):
    return (list(text[:hand]) + [None] * gap + list(text[hand:]), hand, hand + gap)


def benches(texts=("", "a", "/", "ab", "a/b", "abcde", "aaaa", "//a/"), gaps=(0, 1, 2, 7)):
    for text in texts:
        for hand in range(len(text) + 1):
            for gap in gaps:
                yield text, hand, gap


class BenchCase(unittest.TestCase):
    def call(self, function, bench, *more):
        """Call, and see that the bench handed in stays and that a new list comes back."""
        before = copy.deepcopy(bench)
        cells = bench[0]
        back = function(bench, *more)
        self.assertEqual(bench, before)
        self.assertIs(type(back), tuple)
        self.assertEqual(len(back), 3)
        self.assertIs(type(back[0]), list)
        self.assertIsNot(back[0], cells)
        self.assertEqual([type(back[1]), type(back[2])], [int, int])
        self.check_form(back)
        back[0].append("changed behind the call")
        self.assertEqual(bench, before)
        back[0].pop()
        return back

    def check_form(self, bench):
        cells, start, stop = bench
        self.assertTrue(0 <= start <= stop <= len(cells))
        for place, cell in enumerate(cells):
            if start <= place < stop:
                self.assertIsNone(cell)
            else:
                self.assertIs(type(cell), str)
                self.assertEqual(len(cell), 1)


class TextOf(BenchCase):
    def test_signs_in_the_order_of_their_cells(self):
        for text, hand, gap in benches():
            bench = made(text, hand, gap)
            before = copy.deepcopy(bench)
            self.assertEqual(text_of(bench), text)
            self.assertEqual(bench, before)

    def test_written_out(self):
        self.assertEqual(text_of(([], 0, 0)), "")
        self.assertEqual(text_of(([None, None], 0, 2)), "")
        self.assertEqual(text_of((["a", "b"], 0, 0)), "ab")
        self.assertEqual(text_of((["a", "b"], 1, 1)), "ab")
        self.assertEqual(text_of((["a", None, None, "b", "c"], 1, 3)), "abc")
        self.assertEqual(text_of(([None, "b"], 0, 1)), "b")
        self.assertEqual(text_of((["b", None], 1, 2)), "b")

    def test_every_sign(self):
        signs = "".join(chr(code) for code in range(32, 127) if chr(code) not in '%"\\')
        self.assertEqual(text_of(made(signs, 40, 3)), signs)


class Moved(BenchCase):
    def test_every_place_from_every_place(self):
        for text, hand, gap in benches():
            for place in range(len(text) + 1):
                back = self.call(moved, made(text, hand, gap), place)
                self.assertEqual(back, made(text, place, gap))

    def test_written_out(self):
        bench = (["a", "b", None, None, "c", "d"], 2, 4)
        self.assertEqual(self.call(moved, bench, 0), ([None, None, "a", "b", "c", "d"], 0, 2))
        self.assertEqual(self.call(moved, bench, 1), (["a", None, None, "b", "c", "d"], 1, 3))
        self.assertEqual(self.call(moved, bench, 2), bench)
        self.assertEqual(self.call(moved, bench, 3), (["a", "b", "c", None, None, "d"], 3, 5))
        self.assertEqual(self.call(moved, bench, 4), (["a", "b", "c", "d", None, None], 4, 6))

    def test_fewer_signs_than_the_gap_has_cells(self):
        self.assertEqual(self.call(moved, (["a", None, None, None], 1, 4), 0), ([None, None, None, "a"], 0, 3))

    def test_more_signs_than_the_gap_has_cells(self):
        self.assertEqual(self.call(moved, (["a", "b", "c", None], 3, 4), 0), ([None, "a", "b", "c"], 0, 1))

    def test_a_gap_of_no_cell(self):
        self.assertEqual(self.call(moved, (["a", "b", "c"], 3, 3), 1), (["a", "b", "c"], 1, 1))

    def test_a_bench_without_cells(self):
        self.assertEqual(self.call(moved, ([], 0, 0), 0), ([], 0, 0))

    def test_a_long_text(self):
        text = "abcdefg/" * 1300
        self.assertEqual(self.call(moved, made(text, 10, 5), 10000), made(text, 10000, 5))


class PutIn(BenchCase):
    def test_into_a_free_cell(self):
        for text, hand, gap in benches(gaps=(1, 2, 7)):
            for sign in "x/ ~":
                back = self.call(put_in, made(text, hand, gap), sign)
                self.assertEqual(back, made(text[:hand] + sign + text[hand:], hand + 1, gap - 1))
                self.assertEqual(len(back[0]), len(text) + gap)

    def test_into_an_empty_gap(self):
        for text, hand, gap in benches(gaps=(0,)):
            back = self.call(put_in, made(text, hand, gap), "x")
            self.assertEqual(len(back[0]), 2 * len(text) + 4)
            self.assertEqual(back, made(text[:hand] + "x" + text[hand:], hand + 1, len(text) + 3))

    def test_written_out(self):
        self.assertEqual(self.call(put_in, ([], 0, 0), "x"), (["x", None, None, None], 1, 4))
        self.assertEqual(self.call(put_in, (["a"], 0, 0), "x"), (["x", None, None, None, None, "a"], 1, 5))
        self.assertEqual(self.call(put_in, (["a"], 1, 1), "x"), (["a", "x", None, None, None, None], 2, 6))
        self.assertEqual(self.call(put_in, (["a", None, "b"], 1, 2), "x"), (["a", "x", "b"], 2, 2))
        self.assertEqual(self.call(put_in, ([None, None], 0, 2), "x"), (["x", None], 1, 2))

    def test_the_gap_is_empty_behind_its_last_cell_and_only_then_grows(self):
        bench = ([None] * 4, 0, 4)
        sizes = []
        for sign in "abcdefghijklm":
            bench = self.call(put_in, bench, sign)
            sizes.append(len(bench[0]))
        self.assertEqual(sizes, [4] * 4 + [12] * 8 + [28])
        self.assertEqual(text_of(bench), "abcdefghijklm")

    def test_more_than_ten_thousand_signs(self):
        text = "a" * 10001
        back = self.call(put_in, made(text, 5000, 0), "b")
        self.assertEqual(back, made(text[:5000] + "b" + text[5000:], 5001, 10004))


class Taken(BenchCase):
    def test_ahead(self):
        for text, hand, gap in benches():
            if hand > 0:
                back = self.call(taken_ahead, made(text, hand, gap))
                self.assertEqual(back, made(text[:hand - 1] + text[hand:], hand - 1, gap + 1))
                self.assertEqual(len(back[0]), len(text) + gap)

    def test_behind(self):
        for text, hand, gap in benches():
            if hand < len(text):
                back = self.call(taken_behind, made(text, hand, gap))
                self.assertEqual(back, made(text[:hand] + text[hand + 1:], hand, gap + 1))
                self.assertEqual(len(back[0]), len(text) + gap)

    def test_written_out(self):
        bench = (["a", "b", None, "c", "d"], 2, 3)
        self.assertEqual(self.call(taken_ahead, bench), (["a", None, None, "c", "d"], 1, 3))
        self.assertEqual(self.call(taken_behind, bench), (["a", "b", None, None, "d"], 2, 4))
        self.assertEqual(self.call(taken_ahead, (["a"], 1, 1)), ([None], 0, 1))
        self.assertEqual(self.call(taken_behind, (["a"], 0, 0)), ([None], 0, 1))


if __name__ == "__main__":
    unittest.main()
