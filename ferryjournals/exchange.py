"""The calls by which records come from elsewhere: put, merge, lacks."""

from ferryjournals.records import (
    REMARK,
    TAKING_BACK,
    VERDICT,
    Record,
    is_kind,
    is_same,
    over_may_be,
    state_may_be,
    tick_of,
)
from ferryjournals.refusals import (
    are_no_two_journals,
    is_no_journal,
    name_is_beyond,
    put_refusal,
    stamp_number_is_beyond,
    text_is_beyond,
)
from ferryjournals.segments import approves_own
from ferryjournals.texts import read_text


def put(journals, j, stamp, kind, doc, seg, state, over, src, row):
    if stamp_number_is_beyond(stamp) or name_is_beyond(doc, seg) or text_is_beyond(src) or text_is_beyond(row):
        return [-6]
    if is_no_journal(j) or not is_kind(kind) or not state_may_be(kind, state) or not over_may_be(kind, over):
        return [-1]
    source = read_text(src)
    reading = read_text(row)
    refusal = put_refusal(kind, source, reading)
    if refusal != []:
        return refusal
    size = len(source.pieces) + len(reading.pieces)
    return take_in(journals[j], Record(stamp, kind, (doc, seg), state, over, src, row, size))


def take_in(journal, record):
    """What is answered to a record that is as its kind has it, having put it in if it's new."""
    if journal.has_stamp(record.stamp):
        return [0] if has_just(journal, record) else [-3]
    if not all([may_be_over(journal, record, stamp) for stamp in record.over]):
        return [-2]
    if approves_own(journal, record):
        return [-3]
    if not journal.has_room([record]):
        return [-6]
    journal.put_in(record)
    return [1]


def has_just(journal, record):
    """Whether the journal has a record just as it is."""
    return journal.has_stamp(record.stamp) and is_same(journal.records[record.stamp], record)


def may_be_over(journal, record, stamp):
    """Whether a record may be over that of a stamp, which the journal needn't have."""
    if not journal.has_stamp(stamp):
        return False
    base = journal.records[stamp]
    if base.kind == REMARK or (record.kind == VERDICT and base.kind == TAKING_BACK):
        return False
    return base.name == record.name and tick_of(base) < tick_of(record)


def merge(journals, j, other):
    if are_no_two_journals(j, other):
        return [-1]
    journal = journals[j]
    coming = []
    for number, record in enumerate(journals[other].ordered()):
        if not journal.has_stamp(record.stamp):
            coming.append(record)
        elif not has_just(journal, record):
            return [-5, 7, number]
    if not journal.has_room(coming):
        return [-6]
    for record in coming:
        journal.put_in(record)
    return [len(coming)]


def lacks(journals, j, other):
    if are_no_two_journals(j, other):
        return [-1]
    return [len([record for record in journals[other].ordered() if not has_just(journals[j], record)])]
