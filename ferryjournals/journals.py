"""The interface: a list of calls on three new journals, and what is answered to them."""

from ferryjournals.entries import back, remark, rule, write
from ferryjournals.exchange import lacks, merge, put
from ferryjournals.overviews import count_records, record_at, seen, tally
from ferryjournals.questions import head, next_segment, said, stands
from ferryjournals.records import Journal

WRITE = 1
RULE = 2
BACK = 3
REMARK = 4
STANDS = 5
HEAD = 6
SAID = 7
NEXT = 8
TALLY = 9
COUNT = 10
RECORD = 11
PUT = 12
MERGE = 13
LACKS = 14

# By a call's number (15 is seen): how many whole numbers it has, and how many rows.
FORMS = {
    1: (6, 2), 2: (6, 0), 3: (5, 0), 4: (5, 1),
    5: (4, 0), 6: (5, 0), 7: (4, 0), 8: (4, 0),
    9: (2, 0), 10: (1, 0), 11: (3, 0),
    12: (6, 3), 13: (2, 0), 14: (2, 0), 15: (3, 0),
}


def answers(calls):
    """For each call, in order, how many numbers are answered, and these."""
    journals = [Journal(), Journal(), Journal()]
    told = []
    place = 0
    while place < len(calls):
        call = calls[place]
        form = FORMS[call]
        values = calls[place + 1:place + 1 + form[0]]
        place = place + 1 + form[0]
        rows = []
        for turn in range(form[1]):
            first = place + 1
            place = first + calls[place]
            rows.append(calls[first:place])
        answer = answer_call(journals, call, values, rows)
        told.append(len(answer))
        told.extend(answer)
    return told


def answer_call(journals, call, values, rows):
    if call <= REMARK:
        return answer_entry(journals, call, values, rows)
    if call <= NEXT:
        return answer_question(journals, call, values)
    if call in (PUT, MERGE, LACKS):
        return answer_exchange(journals, call, values, rows)
    return answer_overview(journals, call, values)


def answer_entry(journals, call, v, rows):
    if call == WRITE:
        return write(journals, v[0], v[1], v[2], v[3], v[4], v[5], rows[0], rows[1])
    if call == RULE:
        return rule(journals, v[0], v[1], v[2], v[3], v[4], v[5])
    if call == BACK:
        return back(journals, v[0], v[1], v[2], v[3], v[4])
    return remark(journals, v[0], v[1], v[2], v[3], v[4], rows[0])


def answer_question(journals, call, v):
    if call == STANDS:
        return stands(journals, v[0], v[1], v[2], v[3])
    if call == HEAD:
        return head(journals, v[0], v[1], v[2], v[3], v[4])
    if call == SAID:
        return said(journals, v[0], v[1], v[2], v[3])
    return next_segment(journals, v[0], v[1], v[2], v[3])


def answer_exchange(journals, call, v, rows):
    if call == PUT:
        return put(journals, v[0], v[1], v[2], v[3], v[4], v[5], rows[0], rows[1], rows[2])
    if call == MERGE:
        return merge(journals, v[0], v[1])
    return lacks(journals, v[0], v[1])


def answer_overview(journals, call, v):
    if call == TALLY:
        return tally(journals, v[0], v[1])
    if call == COUNT:
        return count_records(journals, v[0])
    if call == RECORD:
        return record_at(journals, v[0], v[1], v[2])
    return seen(journals, v[0], v[1], v[2])
