"""Refusals that hang on a call's own numbers and texts alone.

The refusal of texts is a list, as it is answered; it has no number where nothing is refused.
"""

from ferryjournals.records import REMARK, TARGET
from ferryjournals.tags import fits, is_straight
from ferryjournals.texts import CHARACTER

LAST_JOURNAL = 2
LAST_PERSON = 255
TICKS = 1099511627776
STAMPS = 281474976710656
LAST_DOCUMENT = 15
LAST_SEGMENT = 65535
LONGEST_TEXT = 65536
LONGEST_ROW = 4096


def stamp_is_beyond(who, tick):
    return who > LAST_PERSON or tick >= TICKS


def stamp_number_is_beyond(stamp):
    return stamp >= STAMPS


def document_is_beyond(doc):
    return doc > LAST_DOCUMENT


def name_is_beyond(doc, seg):
    return document_is_beyond(doc) or seg > LAST_SEGMENT


def text_is_beyond(text):
    return len(text) > LONGEST_TEXT


def is_no_journal(j):
    return j > LAST_JOURNAL


def are_no_two_journals(j, other):
    return is_no_journal(j) or is_no_journal(other) or j == other


def row_refusal(reading, kind):
    """That of bytes that are no row's text (with the kind that -5 tells), or of a row that is too long."""
    if reading.fault is not None:
        return [-5, kind, reading.fault]
    if len(reading.pieces) > LONGEST_ROW:
        return [-6]
    return []


def source_refusal(source):
    refusal = row_refusal(source, 1)
    if refusal == [] and not is_straight(source.pieces):
        return [-5, 1, len(source.text)]
    return refusal


def target_refusal(source, row):
    """That of a target's two texts, the source's first."""
    refusal = source_refusal(source)
    if refusal == []:
        refusal = row_refusal(row, 2)
    if refusal == [] and not fits(row.pieces, source.pieces):
        return [-5, 3, 0]
    return refusal


def remark_refusal(row):
    refusal = row_refusal(row, 2)
    if refusal != []:
        return refusal
    for place, piece in zip(row.starts, row.pieces):
        if piece[0] != CHARACTER:
            return [-5, 4, place]
    if row.pieces == []:
        return [-5, 5, 0]
    return []


def put_refusal(kind, source, row):
    """That of the two texts of a record from elsewhere."""
    if kind == TARGET:
        return target_refusal(source, row)
    if source.text != []:
        return [-5, 6, 0]
    if kind == REMARK:
        return remark_refusal(row)
    if row.text != []:
        return [-5, 6, 0]
    return []
