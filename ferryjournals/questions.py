"""The calls that ask a journal of its segments: stands, head, said, next."""

from ferryjournals.records import person_of
from ferryjournals.refusals import is_no_journal, name_is_beyond
from ferryjournals.segments import (
    heads_of,
    in_conflict,
    origin_of,
    records_by_segment,
    records_of,
    remarks_of,
    standing,
)


def stands(journals, j, doc, seg, which):
    if name_is_beyond(doc, seg):
        return [-6]
    if is_no_journal(j) or which > 1:
        return [-1]
    journal = journals[j]
    heads = heads_of(records_of(journal, (doc, seg)))
    record = standing(heads)
    if record is None:
        return [-2]
    return tell_head(journal, record, len(heads), which)


def head(journals, j, doc, seg, k, which):
    if name_is_beyond(doc, seg):
        return [-6]
    if is_no_journal(j) or which > 1:
        return [-1]
    journal = journals[j]
    heads = heads_of(records_of(journal, (doc, seg)))
    if k >= len(heads):
        return [-2]
    return tell_head(journal, heads[k], len(heads), which)


def tell_head(journal, record, how_many, which):
    """What is answered of one of so many heads. A taking back is its own origin, with no source and no row."""
    origin = origin_of(journal, record)
    text = origin.source if which == 1 else origin.row
    return [0, record.stamp, record.kind, record.state, how_many, person_of(origin), len(text)] + text


def said(journals, j, doc, seg, k):
    if name_is_beyond(doc, seg):
        return [-6]
    if is_no_journal(j):
        return [-1]
    remarks = remarks_of(records_of(journals[j], (doc, seg)))
    if k >= len(remarks):
        return [-2]
    return [0, remarks[k].stamp, len(remarks[k].row)] + remarks[k].row


def next_segment(journals, j, what, doc, seg):
    if name_is_beyond(doc, seg):
        return [-6]
    if is_no_journal(j) or what > 3:
        return [-1]
    segments = records_by_segment(journals[j])
    for name in sorted(segments):
        if name >= (doc, seg) and is_so(segments[name], what):
            return [0, name[0], name[1]]
    return [-2]


def is_so(records, what):
    """Whether what is asked for holds of a segment that has these records."""
    if what == 1:
        return in_conflict(heads_of(records))
    if what == 2:
        return standing(heads_of(records)) is not None
    if what == 3:
        return remarks_of(records) != []
    return True
