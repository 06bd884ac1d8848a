"""The calls that put a new record into a journal: write, rule, back, remark."""

from ferryjournals.records import (
    MOST_OVER,
    REMARK,
    TAKING_BACK,
    TARGET,
    VERDICT,
    Record,
    stamp_number,
    state_may_be,
    tick_of,
)
from ferryjournals.refusals import (
    is_no_journal,
    name_is_beyond,
    remark_refusal,
    stamp_is_beyond,
    target_refusal,
    text_is_beyond,
)
from ferryjournals.segments import approves_own, heads_of, in_conflict, records_of, standing
from ferryjournals.texts import read_text


def write(journals, j, who, tick, doc, seg, state, src, row):
    if stamp_is_beyond(who, tick) or name_is_beyond(doc, seg) or text_is_beyond(src) or text_is_beyond(row):
        return [-6]
    if is_no_journal(j) or not state_may_be(TARGET, state):
        return [-1]
    source = read_text(src)
    target = read_text(row)
    refusal = target_refusal(source, target)
    if refusal != []:
        return refusal
    journal = journals[j]
    heads = heads_of(records_of(journal, (doc, seg)))
    stamp = stamp_number(tick, who)
    if journal.has_stamp(stamp) or some_head_is_late(heads, tick):
        return [-3]
    size = len(source.pieces) + len(target.pieces)
    return enter(journal, Record(stamp, TARGET, (doc, seg), state, stamps_over(heads), src, row, size))


def rule(journals, j, who, tick, doc, seg, state):
    if stamp_is_beyond(who, tick) or name_is_beyond(doc, seg):
        return [-6]
    if is_no_journal(j) or not state_may_be(VERDICT, state):
        return [-1]
    journal = journals[j]
    heads = heads_of(records_of(journal, (doc, seg)))
    head = standing(heads)
    if head is None:
        return [-2]
    stamp = stamp_number(tick, who)
    if journal.has_stamp(stamp) or some_head_is_late(heads, tick) or in_conflict(heads):
        return [-3]
    verdict = Record(stamp, VERDICT, (doc, seg), state, [head.stamp], [], [], 0)
    if approves_own(journal, verdict):
        return [-3]
    return enter(journal, verdict)


def back(journals, j, who, tick, doc, seg):
    if stamp_is_beyond(who, tick) or name_is_beyond(doc, seg):
        return [-6]
    if is_no_journal(j):
        return [-1]
    journal = journals[j]
    heads = heads_of(records_of(journal, (doc, seg)))
    if standing(heads) is None:
        return [-2]
    stamp = stamp_number(tick, who)
    if journal.has_stamp(stamp) or some_head_is_late(heads, tick):
        return [-3]
    return enter(journal, Record(stamp, TAKING_BACK, (doc, seg), 0, stamps_over(heads), [], [], 0))


def remark(journals, j, who, tick, doc, seg, row):
    if stamp_is_beyond(who, tick) or name_is_beyond(doc, seg) or text_is_beyond(row):
        return [-6]
    if is_no_journal(j):
        return [-1]
    reading = read_text(row)
    refusal = remark_refusal(reading)
    if refusal != []:
        return refusal
    journal = journals[j]
    stamp = stamp_number(tick, who)
    if journal.has_stamp(stamp):
        return [-3]
    return enter(journal, Record(stamp, REMARK, (doc, seg), 0, [], [], row, len(reading.pieces)))


def some_head_is_late(heads, tick):
    """Whether a head has that tick or a greater one, so that no record of that tick may be over it."""
    return any([tick_of(head) >= tick for head in heads])


def stamps_over(heads):
    """What a new target or taking back is over: the heads; of too many the last."""
    return [head.stamp for head in heads[-MOST_OVER:]]


def enter(journal, record):
    if not journal.has_room([record]):
        return [-6]
    journal.put_in(record)
    return [0]
