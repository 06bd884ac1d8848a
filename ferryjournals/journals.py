"""The interface: a list of calls on three new journals, and what is answered to them."""

from ferryjournals.entries import back, remark, rule, write
from ferryjournals.questions import head, next_segment, said, stands
from ferryjournals.records import Journal

WRITE = 1
RULE = 2
BACK = 3
REMARK = 4
STANDS = 5
HEAD = 6
SAID = 7

# By a call's number (8 is next): how many whole numbers it has, and how many rows.
FORMS = {1: (6, 2), 2: (6, 0), 3: (5, 0), 4: (5, 1), 5: (4, 0), 6: (5, 0), 7: (4, 0), 8: (4, 0)}


def answers(calls):
    """For each call, in order, how many numbers are answered, and these."""
    journals = [Journal(), Journal(), Journal()]
    told = []
    place = 0
    while place < len(calls):
        call = calls[place]
        form = FORMS[call]
        values = calls[place + 1:place + 1 + form[0]]
        place = place + 1 + form[0]
        rows = []
        for turn in range(form[1]):
            first = place + 1
            place = first + calls[place]
            rows.append(calls[first:place])
        answer = answer_call(journals, call, values, rows)
        told.append(len(answer))
        told.extend(answer)
    return told


def answer_call(journals, call, values, rows):
    if call <= REMARK:
        return answer_entry(journals, call, values, rows)
    return answer_question(journals, call, values)


def answer_entry(journals, call, v, rows):
    if call == WRITE:
        return write(journals, v[0], v[1], v[2], v[3], v[4], v[5], rows[0], rows[1])
    if call == RULE:
        return rule(journals, v[0], v[1], v[2], v[3], v[4], v[5])
    if call == BACK:
        return back(journals, v[0], v[1], v[2], v[3], v[4])
    return remark(journals, v[0], v[1], v[2], v[3], v[4], rows[0])


def answer_question(journals, call, v):
    if call == STANDS:
        return stands(journals, v[0], v[1], v[2], v[3])
    if call == HEAD:
        return head(journals, v[0], v[1], v[2], v[3], v[4])
    if call == SAID:
        return said(journals, v[0], v[1], v[2], v[3])
    return next_segment(journals, v[0], v[1], v[2], v[3])
