"""Segments: what a journal's records say of each of them."""

from ferryjournals.records import APPROVED, REMARK, TAKING_BACK, VERDICT, person_of


def records_by_segment(journal):
    """The records of each segment that has some, in order, by the segment's name."""
    segments = {}
    for record in journal.ordered():
        segments.setdefault(record.name, []).append(record)
    return segments


def records_of(journal, name):
    """A segment's records, in order."""
    return records_by_segment(journal).get(name, [])


def heads_of(records):
    """The heads among a segment's records, in the order in which these are given."""
    covered = {}
    for record in records:
        for stamp in record.over:
            covered[stamp] = True
    return [record for record in records if record.kind != REMARK and record.stamp not in covered]


def remarks_of(records):
    return [record for record in records if record.kind == REMARK]


def in_conflict(heads):
    return len(heads) >= 2


def standing(heads):
    """The head that stands, of a segment's heads in order; None where nothing stands."""
    best = None
    for head in heads:
        if head.kind != TAKING_BACK and (best is None or head.state >= best.state):
            best = head
    return best


def origin_of(journal, record):
    """The record that a record's target and hand are of: through verdicts the target, else the record itself."""
    origin = record
    while origin.kind == VERDICT:
        origin = journal.records[origin.over[0]]
    return origin


def approves_own(journal, record):
    """Whether a record, which the journal needn't have, is an approval by its target's own hand."""
    if record.kind != VERDICT or record.state != APPROVED:
        return False
    return person_of(origin_of(journal, record)) == person_of(record)


def has_seen(journal, later, earlier):
    """Whether the record of the later stamp has seen that of the earlier one."""
    met = {later: True}
    pile = [later]
    while pile != []:
        record = journal.records[pile.pop()]
        for stamp in record.over:
            if stamp not in met:
                met[stamp] = True
                pile.append(stamp)
    return earlier in met
