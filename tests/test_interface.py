"""answers(calls): the form of what is given back, and that nothing else is done."""

import contextlib
import inspect
import io
import os
import subprocess
import sys
import unittest

from helper import (
    as_bytes, back, count, head, lacks, merge, next_segment, put, record, remark, rule, said, seen, split, stamp,
    stands, tally, write,
)
from ferryjournals import journals
from ferryjournals.journals import answers

ROOT = os.path.dirname(os.path.dirname(os.path.abspath(__file__)))

CALLS = [
    write(0, 1, 5, 0, 0, 1, "a{.1}", "b{.1}"), rule(0, 2, 6, 0, 0, 4), stands(0, 0, 0, 1), back(0, 3, 7, 0, 0),
    head(0, 0, 0, 0, 0), remark(0, 4, 8, 0, 0, "why"), said(0, 0, 0, 0), next_segment(0, 3), stands(0, 0, 0),
    write(0, 1, 9, 0, 0, 1, "{", ""), write(1, 1, 9, 0, 0, 1, "{.1}", ""), remark(1, 1, 1, 0, 0, ""),
    tally(0, 0), count(0), record(0, 1, 0), record(0, 0, 1), put(1, stamp(5, 1), 1, 0, 0, 1, [], "a{.1}", "b{.1}"),
    put(1, stamp(7, 9), 3, 0, 0, 0, [stamp(5, 1)]), put(1, stamp(7, 9), 3, 0, 0, 0, [stamp(5, 1)], "a"),
    lacks(1, 0), merge(1, 0), lacks(1, 0), seen(1, stamp(5, 1), stamp(7, 9)), seen(1, stamp(7, 9), stamp(7, 3)),
    put(2, stamp(5, 1), 4, 0, 0, 0, [], "", "r"), merge(2, 1), merge(2, 2), tally(1, 0), seen(2, 0, 0), record(2, 1),
]
LINE = [number for call in CALLS for number in call]
TOLD = (
    [1, 0, 1, 0] + [12, 0, stamp(6, 2), 2, 4, 1, 1, 5] + as_bytes("a{.1}") + [1, 0] + [7, 0, stamp(7, 3), 3, 0, 1, 3, 0]
    + [1, 0] + [6, 0, stamp(8, 4), 3] + as_bytes("why") + [3, 0, 0, 0] + [1, -2] + [3, -5, 1, 1] + [3, -5, 3, 0]
    + [3, -5, 5, 0]
    + [7, 1, 1, 0, 0, 0, 0, 0] + [1, 4] + [9, 0, stamp(6, 2), 2, 0, 0, 4, 1, stamp(5, 1), 0]
    + [13, 0, stamp(5, 1), 1, 0, 0, 1, 0, 5] + as_bytes("a{.1}") + [1, 1] + [1, 1] + [3, -5, 6, 0]
    + [1, 3] + [1, 3] + [1, 0] + [1, 1] + [1, 0]
    + [1, 1] + [3, -5, 7, 0] + [1, -1] + [7, 1, 1, 0, 0, 0, 0, 1] + [1, -2] + [1, -2]
)


class Watched(list):
    """A list that can be read, and tells whoever would change it."""

    def refuse(self, *what):
        raise AssertionError("what was handed in is changed")

    append = extend = insert = pop = remove = reverse = sort = clear = refuse
    __setitem__ = __delitem__ = __iadd__ = __imul__ = refuse


class FormTest(unittest.TestCase):
    def test_numbers_ahead_of_each_answer(self):
        self.assertEqual(answers(LINE), TOLD)

    def test_one_call(self):
        self.assertEqual(answers([5, 0, 0, 0, 0]), [1, -2])
        self.assertEqual(answers([1, 2, 255, 0, 15, 65535, 3, 0, 0]), [1, 0])

    def test_whole_numbers_in_a_list(self):
        told = answers(LINE)
        self.assertIs(type(told), list)
        self.assertEqual({type(number) for number in told}, {int})

    def test_the_name_of_the_argument(self):
        self.assertEqual(list(inspect.signature(journals.answers).parameters), ["calls"])

    def test_400_calls(self):
        self.assertEqual(answers(next_segment(0, 0) * 400), [1, -2] * 400)
        line = []
        for tick in range(1, 201):
            line.extend(put(tick % 3, stamp(tick, 1), 1, 3, tick % 2, 1, [], "s", "t"))
        line.extend((merge(0, 1) + merge(0, 2) + merge(1, 0) + merge(2, 0) + lacks(1, 2)) * 20)
        for k in range(100):
            line.extend(head(k % 3, 3, 1, k))
        found = split(answers(line))
        self.assertEqual(found[:205], [[1]] * 200 + [[67], [67], [133], [133], [0]])
        self.assertEqual(found[205:300], [[0]] * 95)
        self.assertEqual(found[300:], [[0, stamp(2 * k + 1, 1), 1, 1, 100, 1, 1, 116] for k in range(100)])

    def test_16000_numbers(self):
        line = put(0, stamp(1, 1), 1, 3, 4, 1, [], "\u20ac" * 2500, "\U0001f600" * 2000) + stands(0, 3, 4, 0)
        line = line + merge(1, 0) + record(1, 0, 1)
        line = line + remark(2, 1, 1, 0, 0, "a" * (16000 - len(line) - 7))
        self.assertEqual(len(line), 16000)
        before = list(line)
        found = split(answers(line))
        self.assertEqual(line, before)
        self.assertEqual(len(found), 5)
        self.assertEqual(found[0], [1])
        self.assertEqual(found[1], [0, stamp(1, 1), 1, 1, 1, 1, 8000] + as_bytes("\U0001f600" * 2000))
        self.assertEqual(found[2], [1])
        self.assertEqual(found[3], [0, stamp(1, 1), 1, 3, 4, 1, 0, 7500] + as_bytes("\u20ac" * 2500))
        self.assertEqual(found[4], [0])
        self.assertEqual(split(answers(line)), found)

    def test_long_answers(self):
        line = write(0, 1, 1, 0, 0, 1, "\U0001f600" * 3500, "") + stands(0, 0, 0, 1) * 42
        self.assertEqual(len(answers(line)), 2 + 42 * (8 + 14000))


class NothingElseTest(unittest.TestCase):
    def test_what_is_handed_in_is_not_changed(self):
        line = Watched(LINE)
        self.assertEqual(answers(line), TOLD)
        self.assertEqual(line, LINE)

    def test_what_is_given_back_is_new(self):
        line = list(LINE)
        told = answers(line)
        told.clear()
        self.assertEqual(line, LINE)
        self.assertEqual(answers(line), TOLD)

    def test_nothing_is_kept_from_one_time_to_the_next(self):
        for turn in range(3):
            self.assertEqual(answers(LINE), TOLD)
            self.assertEqual(answers([5, 0, 0, 0, 0]), [1, -2])

    def test_nothing_is_printed(self):
        shown = io.StringIO()
        with contextlib.redirect_stdout(shown), contextlib.redirect_stderr(shown):
            answers(LINE)
        self.assertEqual(shown.getvalue(), "")

    def test_nothing_is_imported_or_read(self):
        program = (
            "import sys\n"
            "before = set(sys.modules)\n"
            "from ferryjournals.journals import answers\n"
            "drawn = set(sys.modules) - before\n"
            "after = set(sys.modules)\n"
            "seen = []\n"
            "sys.addaudithook(lambda event, values: seen.append(event))\n"
            "answers(%r)\n"
            "done = list(seen)\n"
            "print(all(name.split('.')[0] == 'ferryjournals' for name in drawn), set(sys.modules) == after, done)\n"
        ) % (LINE,)
        shown = subprocess.run(
            [sys.executable, "-B", "-c", program], cwd=ROOT, capture_output=True, text=True, check=True
        )
        self.assertEqual((shown.stdout, shown.stderr), ("True True []\n", ""))


if __name__ == "__main__":
    unittest.main()
