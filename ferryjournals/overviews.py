"""The calls that ask a journal as a whole: tally, count, record, seen."""

from ferryjournals.refusals import document_is_beyond, is_no_journal
from ferryjournals.segments import has_seen, heads_of, in_conflict, records_by_segment, standing


def tally(journals, j, doc):
    if document_is_beyond(doc):
        return [-6]
    if is_no_journal(j):
        return [-1]
    by_state = [0, 0, 0, 0, 0]
    conflicts = 0
    for heads in heads_in_document(journals[j], doc):
        state = standing_state(heads)
        by_state[state] = by_state[state] + 1
        if in_conflict(heads):
            conflicts = conflicts + 1
    return [sum(by_state)] + by_state + [conflicts]


def heads_in_document(journal, doc):
    """The heads of each segment of a document that has some: just those that have more than remarks."""
    segments = records_by_segment(journal)
    found = [heads_of(segments[name]) for name in segments if name[0] == doc]
    return [heads for heads in found if heads != []]


def standing_state(heads):
    """The state of what stands, of a segment's heads; 0 where nothing stands."""
    record = standing(heads)
    if record is None:
        return 0
    return record.state


def count_records(journals, j):
    if is_no_journal(j):
        return [-1]
    return [len(journals[j].records)]


def record_at(journals, j, k, which):
    if is_no_journal(j) or which > 1:
        return [-1]
    records = journals[j].ordered()
    if k >= len(records):
        return [-2]
    record = records[k]
    text = record.source if which == 1 else record.row
    told = [0, record.stamp, record.kind, record.name[0], record.name[1], record.state]
    return told + [len(record.over)] + record.over + [len(text)] + text


def seen(journals, j, a, b):
    if is_no_journal(j):
        return [-1]
    journal = journals[j]
    if not journal.has_stamp(a) or not journal.has_stamp(b):
        return [-2]
    return [1] if has_seen(journal, b, a) else [0]
