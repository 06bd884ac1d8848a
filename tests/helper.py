"""Calls as lists of numbers, and what is answered to them, call by call."""

import os
import sys
import unittest

sys.path.insert(0, os.path.dirname(os.path.dirname(os.path.abspath(__file__))))

from ferryjournals.journals import answers  # noqa: E402

TICKS = 2 ** 40
MOST = 2 ** 32 - 1
MOST_LONG = 2 ** 64 - 1


def as_bytes(text):
    return list(text.encode("utf-8") if isinstance(text, str) else text)


def with_length(text):
    numbers = as_bytes(text)
    return [len(numbers)] + numbers


def write(j, who, tick, doc, seg, state, src, row):
    return [1, j, who, tick, doc, seg, state] + with_length(src) + with_length(row)


def rule(j, who, tick, doc, seg, state):
    return [2, j, who, tick, doc, seg, state]


def back(j, who, tick, doc, seg):
    return [3, j, who, tick, doc, seg]


def remark(j, who, tick, doc, seg, row):
    return [4, j, who, tick, doc, seg] + with_length(row)


def stands(j, doc, seg, which=0):
    return [5, j, doc, seg, which]


def head(j, doc, seg, k, which=0):
    return [6, j, doc, seg, k, which]


def said(j, doc, seg, k):
    return [7, j, doc, seg, k]


def next_segment(j, what, doc=0, seg=0):
    return [8, j, what, doc, seg]


def tally(j, doc):
    return [9, j, doc]


def count(j):
    return [10, j]


def record(j, k, which=0):
    return [11, j, k, which]


def put(j, number, kind, doc, seg, state, over=(), src="", row=""):
    return [12, j, number, kind, doc, seg, state] + with_length(over) + with_length(src) + with_length(row)


def merge(j, other):
    return [13, j, other]


def lacks(j, other):
    return [14, j, other]


def seen(j, a, b):
    return [15, j, a, b]


def stamp(tick, who):
    return 256 * tick + who


def split(told):
    """The answers, one list a call."""
    found = []
    place = 0
    while place < len(told):
        end = place + 1 + told[place]
        found.append(told[place + 1:end])
        place = end
    return found


def ask(*calls):
    """What is answered to each of these calls, made on new journals one behind another."""
    line = []
    for call in calls:
        line.extend(call)
    found = split(answers(line))
    if len(found) != len(calls):
        raise AssertionError("answered %d times to %d calls" % (len(found), len(calls)))
    return found


def last(*calls):
    return ask(*calls)[-1]


def told(tick, who, kind, state, heads, hand, text):
    """The answer of stands and head."""
    numbers = as_bytes(text)
    return [0, stamp(tick, who), kind, state, heads, hand, len(numbers)] + numbers


def kept(number, kind, doc, seg, state, over, text):
    """The answer of record."""
    return [0, number, kind, doc, seg, state] + with_length(over) + with_length(text)


def contents(*calls):
    """All that the three journals have after these calls: each record, with both of its texts."""
    found = []
    for j, (many,) in enumerate(ask(*calls, count(0), count(1), count(2))[len(calls):]):
        asked = [record(j, k, which) for k in range(many) for which in (0, 1)]
        found.append(ask(*calls, *asked)[len(calls):])
    return found


class RefusalCase(unittest.TestCase):
    good = [0]

    def refused(self, answer, call, *before):
        """The call is refused so, and the journals are as if it hadn't been made."""
        self.assertEqual(last(*before, call), answer, call)
        self.assertEqual(contents(*before, call), contents(*before), call)

    def taken(self, call, *before):
        self.assertEqual(last(*before, call), self.good, call)
