"""Calls as lists of numbers, and what is answered to them, call by call."""

import os
import sys

sys.path.insert(0, os.path.dirname(os.path.dirname(os.path.abspath(__file__))))

from ferryjournals.journals import answers  # noqa: E402

TICKS = 2 ** 40
MOST = 2 ** 32 - 1
MOST_LONG = 2 ** 64 - 1


def as_bytes(text):
    return list(text.encode("utf-8") if isinstance(text, str) else text)


def with_length(text):
    numbers = as_bytes(text)
    return [len(numbers)] + numbers


def write(j, who, tick, doc, seg, state, src, row):
    return [1, j, who, tick, doc, seg, state] + with_length(src) + with_length(row)


def rule(j, who, tick, doc, seg, state):
    return [2, j, who, tick, doc, seg, state]


def back(j, who, tick, doc, seg):
    return [3, j, who, tick, doc, seg]


def remark(j, who, tick, doc, seg, row):
    return [4, j, who, tick, doc, seg] + with_length(row)


def stands(j, doc, seg, which=0):
    return [5, j, doc, seg, which]


def head(j, doc, seg, k, which=0):
    return [6, j, doc, seg, k, which]


def said(j, doc, seg, k):
    return [7, j, doc, seg, k]


def next_segment(j, what, doc=0, seg=0):
    return [8, j, what, doc, seg]


def stamp(tick, who):
    return 256 * tick + who


def split(told):
    """The answers, one list a call."""
    found = []
    place = 0
    while place < len(told):
        end = place + 1 + told[place]
        found.append(told[place + 1:end])
        place = end
    return found


def ask(*calls):
    """What is answered to each of these calls, made on new journals one behind another."""
    line = []
    for call in calls:
        line.extend(call)
    found = split(answers(line))
    if len(found) != len(calls):
        raise AssertionError("answered %d times to %d calls" % (len(found), len(calls)))
    return found


def last(*calls):
    return ask(*calls)[-1]


def told(tick, who, kind, state, heads, hand, text):
    """The answer of stands and head."""
    numbers = as_bytes(text)
    return [0, stamp(tick, who), kind, state, heads, hand, len(numbers)] + numbers
