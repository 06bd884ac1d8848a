"""Straight rows, halves, and targets that fit."""

import itertools
import unittest

from helper import last, stands, told, write


def written(src, row):
    return last(write(0, 1, 1, 0, 0, 1, src, row))


def halves_by_the_words(tags):
    """Left and right halves of a straight row of tags (kind, number), or None."""
    opens = [number for kind, number in tags if kind == "+"]
    closes = [number for kind, number in tags if kind == "-"]
    alones = [number for kind, number in tags if kind == "."]
    if any(len(set(numbers)) != len(numbers) for numbers in (opens, closes, alones)):
        return None
    if set(alones) & (set(opens) | set(closes)):
        return None
    for number in set(opens) & set(closes):
        if tags.index(("-", number)) < tags.index(("+", number)):
            return None
    lefts = []
    pile = []
    for kind, number in tags:
        if kind == "+":
            pile.append(number)
        elif kind == "-" and not pile:
            lefts.append(number)
        elif kind == "-" and pile.pop() != number:
            return None
    return lefts, pile


def text_of(tags):
    return "".join("{%s%d}" % tag for tag in tags)


class StraightTest(unittest.TestCase):
    def straight(self, src):
        self.assertEqual(written(src, src), [0], src)

    def crooked(self, src):
        self.assertEqual(written(src, src), [-5, 1, len(src.encode("utf-8"))], src)

    def test_straight_rows(self):
        for src in ("", "a", "{+1}{-1}", "{+1}{+2}{-2}{-1}", "{+1}{-1}{+2}{-2}", "{-1}", "{+1}", "{-1}{+2}", "{-2}{-1}",
                    "{+2}{+1}", "{.1}{.2}", "{+1}{.2}{-1}", "{-3}a{+1}{.4}{-1}b{+2}", "{-3}{+1}{-1}{-2}"):
            self.straight(src)

    def test_a_close_where_another_is_on_top(self):
        self.crooked("{+1}{-2}")
        self.crooked("{+1}{+2}{-1}{-2}")
        self.crooked("{+1}{+2}{-1}")

    def test_a_number_twice(self):
        self.crooked("{+1}{+1}")
        self.crooked("{+1}{-1}{+1}")
        self.crooked("{-1}{-1}")
        self.crooked("{+1}{-1}{-1}")
        self.crooked("{.1}{.1}")

    def test_alone_beside_open_or_close(self):
        for src in ("{.1}{+1}", "{+1}{.1}", "{.1}{-1}", "{-1}{.1}", "{+1}{.1}{-1}", "{.1}{+1}{-1}", "{+1}{-1}{.1}"):
            self.crooked(src)

    def test_a_close_before_its_open(self):
        self.crooked("{-1}{+1}")
        self.crooked("{-1}a{+2}{-2}{+1}")

    def test_the_place_is_the_length_in_bytes(self):
        self.assertEqual(written("\u20ac{.1}{.1}\u20ac", ""), [-5, 1, 14])

    def test_a_deep_pile(self):
        opens = "".join("{+%d}" % number for number in range(1, 1000))
        closes = "".join("{-%d}" % number for number in range(999, 0, -1))
        self.straight(opens)
        self.straight(closes)
        self.straight(opens[:4000].rpartition("{")[0])
        self.assertEqual(written(opens + closes, opens + closes), [0])

    def test_all_short_rows_of_tags(self):
        tags = [(kind, number) for kind in "+-." for number in (1, 2, 3)]
        for length in range(5):
            for row in itertools.product(tags, repeat=length):
                src = text_of(row)
                expected = [0] if halves_by_the_words(row) is not None else [-5, 1, len(src)]
                self.assertEqual(written(src, src), expected, src)


class FitTest(unittest.TestCase):
    def unfit(self, src, row):
        self.assertEqual(written(src, row), [-5, 3, 0], (src, row))

    def fit(self, src, row):
        self.assertEqual(written(src, row), [0], (src, row))

    def test_fitting_targets(self):
        self.fit("", "")
        self.fit("abc", "")
        self.fit("", "abc")
        self.fit("{+1}a{-1} {.2}", "{.2}{+1}{-1}b")
        self.fit("{+1}{-1}{+2}{-2}", "{+2}{+1}{-1}{-2}")
        self.fit("{-1}a{+2}", "b{-1}{+2}c")
        self.fit("{-1}{-2}{.5}{+4}{+3}", "{-1}{.5}{-2}{+4}x{+3}")

    def test_other_tags(self):
        self.unfit("{.1}", "")
        self.unfit("", "{.1}")
        self.unfit("{.1}", "{.2}")
        self.unfit("{.1}", "{.1}{.2}")
        self.unfit("{.1}", "{.1}{.1}")
        self.unfit("{+1}{-1}", "{+1}")
        self.unfit("{+1}{-1}", "{-1}")
        self.unfit("{.1}", "{+1}")
        self.unfit("{+1}", "{-1}")

    def test_targets_that_are_not_straight(self):
        self.unfit("{+1}{-1}", "{-1}{+1}")
        self.unfit("{+1}{+2}{-2}{-1}", "{+1}{+2}{-1}{-2}")
        self.unfit("{+1}", "{+1}{+1}")

    def test_halves_in_another_order(self):
        self.unfit("{-1}{-2}", "{-2}{-1}")
        self.unfit("{+1}{+2}", "{+2}{+1}")
        self.unfit("{-1}{-2}{+3}{+4}", "{-1}{-2}{+4}{+3}")
        self.unfit("{-1}{-2}{+3}{+4}", "{-2}{-1}{+3}{+4}")

    def test_all_pairs_of_short_rows(self):
        tags = [("+", 1), ("-", 1), ("+", 2), ("-", 2), (".", 3)]
        rows = [row for length in range(5) for row in itertools.permutations(tags, length)]
        straight = [row for row in rows if halves_by_the_words(row) is not None]
        for src in straight:
            for row in rows:
                if set(row) == set(src):
                    expected = [0] if halves_by_the_words(row) == halves_by_the_words(src) else [-5, 3, 0]
                    self.assertEqual(written(text_of(src), text_of(row)), expected, (src, row))

    def test_both_rows_are_told_as_they_were_written(self):
        src = "{-7}S\u00e9{+1}{{}{-1}{+900}"
        row = "{-7}{+1}T{-1}\u20ac{+900}{{"
        calls = [write(0, 5, 9, 3, 4, 2, src, row)]
        self.assertEqual(last(*calls, stands(0, 3, 4, 0)), told(9, 5, 1, 2, 1, 5, row))
        self.assertEqual(last(*calls, stands(0, 3, 4, 1)), told(9, 5, 1, 2, 1, 5, src))


if __name__ == "__main__":
    unittest.main()
