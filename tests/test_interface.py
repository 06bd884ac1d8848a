"""answers(calls): the form of what is given back, and that nothing else is done."""

import contextlib
import inspect
import io
import os
import subprocess
import sys
import unittest

from helper import as_bytes, back, head, next_segment, remark, rule, said, stamp, stands, write
from ferryjournals import journals
from ferryjournals.journals import answers

ROOT = os.path.dirname(os.path.dirname(os.path.abspath(__file__)))

CALLS = [
    write(0, 1, 5, 0, 0, 1, "a{.1}", "b{.1}"), rule(0, 2, 6, 0, 0, 4), stands(0, 0, 0, 1), back(0, 3, 7, 0, 0),
    head(0, 0, 0, 0, 0), remark(0, 4, 8, 0, 0, "why"), said(0, 0, 0, 0), next_segment(0, 3), stands(0, 0, 0),
    write(0, 1, 9, 0, 0, 1, "{", ""), write(1, 1, 9, 0, 0, 1, "{.1}", ""), remark(1, 1, 1, 0, 0, ""),
]
LINE = [number for call in CALLS for number in call]
TOLD = (
    [1, 0, 1, 0] + [12, 0, stamp(6, 2), 2, 4, 1, 1, 5] + as_bytes("a{.1}") + [1, 0] + [7, 0, stamp(7, 3), 3, 0, 1, 3, 0]
    + [1, 0] + [6, 0, stamp(8, 4), 3] + as_bytes("why") + [3, 0, 0, 0] + [1, -2] + [3, -5, 1, 1] + [3, -5, 3, 0]
    + [3, -5, 5, 0]
)


class Watched(list):
    """A list that can be read, and tells whoever would change it."""

    def refuse(self, *what):
        raise AssertionError("what was handed in is changed")

    append = extend = insert = pop = remove = reverse = sort = clear = refuse
    __setitem__ = __delitem__ = __iadd__ = __imul__ = refuse


class FormTest(unittest.TestCase):
    def test_numbers_ahead_of_each_answer(self):
        self.assertEqual(answers(LINE), TOLD)

    def test_one_call(self):
        self.assertEqual(answers([5, 0, 0, 0, 0]), [1, -2])
        self.assertEqual(answers([1, 2, 255, 0, 15, 65535, 3, 0, 0]), [1, 0])

    def test_whole_numbers_in_a_list(self):
        told = answers(LINE)
        self.assertIs(type(told), list)
        self.assertEqual({type(number) for number in told}, {int})

    def test_the_name_of_the_argument(self):
        self.assertEqual(list(inspect.signature(journals.answers).parameters), ["calls"])

    def test_400_calls(self):
        told = answers([8, 0, 0, 0, 0] * 400)
        self.assertEqual(told, [1, -2] * 400)

    def test_long_answers(self):
        line = write(0, 1, 1, 0, 0, 1, "\U0001f600" * 3500, "") + stands(0, 0, 0, 1) * 42
        self.assertEqual(len(answers(line)), 2 + 42 * (8 + 14000))


class NothingElseTest(unittest.TestCase):
    def test_what_is_handed_in_is_not_changed(self):
        line = Watched(LINE)
        self.assertEqual(answers(line), TOLD)
        self.assertEqual(line, LINE)

    def test_what_is_given_back_is_new(self):
        line = list(LINE)
        told = answers(line)
        told.clear()
        self.assertEqual(line, LINE)
        self.assertEqual(answers(line), TOLD)

    def test_nothing_is_kept_from_one_time_to_the_next(self):
        for turn in range(3):
            self.assertEqual(answers(LINE), TOLD)
            self.assertEqual(answers([5, 0, 0, 0, 0]), [1, -2])

    def test_nothing_is_printed(self):
        shown = io.StringIO()
        with contextlib.redirect_stdout(shown), contextlib.redirect_stderr(shown):
            answers(LINE)
        self.assertEqual(shown.getvalue(), "")

    def test_nothing_is_imported_or_read(self):
        program = (
            "import sys\n"
            "before = set(sys.modules)\n"
            "from ferryjournals.journals import answers\n"
            "drawn = set(sys.modules) - before\n"
            "after = set(sys.modules)\n"
            "seen = []\n"
            "sys.addaudithook(lambda event, values: seen.append(event))\n"
            "answers(%r)\n"
            "done = list(seen)\n"
            "print(all(name.split('.')[0] == 'ferryjournals' for name in drawn), set(sys.modules) == after, done)\n"
        ) % (LINE,)
        shown = subprocess.run(
            [sys.executable, "-B", "-c", program], cwd=ROOT, capture_output=True, text=True, check=True
        )
        self.assertEqual((shown.stdout, shown.stderr), ("True True []\n", ""))


if __name__ == "__main__":
    unittest.main()
