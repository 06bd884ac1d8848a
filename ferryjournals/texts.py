"""Texts: the bytes of rows, and the pieces that they stand for.

A piece is a tuple of its kind and its number: a character's own number, or a tag's.
"""

CHARACTER = 0
OPENING = 1
CLOSING = 2
ALONE = 3

BRACE = 0x7B
BRACE_END = 0x7D
PLUS = 0x2B
MINUS = 0x2D
POINT = 0x2E
NOUGHT = 0x30
NINE = 0x39

GREATEST_TAG = 999
GREATEST_CHARACTER = 0x10FFFF

# By how many bytes a character has: what its first byte adds to its bits, and the least number written so.
LEAD_MARKS = (0, 0, 0xC0, 0xE0, 0xF0)
LEAST_NUMBERS = (0, 0, 0x80, 0x800, 0x10000)


class Reading:
    """What was found in a text: pieces and the places where they begin; a fault, if it's no row's text."""

    def __init__(self, text):
        self.text = text
        self.pieces = []
        self.starts = []
        self.fault = None


def read_text(text):
    """The Reading of a text; a row's bound of pieces is asked elsewhere, so that a fault comes before it."""
    reading = Reading(text)
    place = 0
    while place < len(text):
        found = read_piece(text, place)
        if found[0] is None:
            reading.fault = found[1]
            return reading
        reading.pieces.append(found[0])
        reading.starts.append(place)
        place = found[1]
    return reading


def read_piece(text, place):
    """The piece at a place and the place behind it; or None and the fault."""
    if text[place] == BRACE:
        return read_braced(text, place + 1)
    return read_character(text, place)


def read_braced(text, place):
    """The piece whose brace stands just ahead of the place."""
    if place == len(text):
        return (None, place)
    if text[place] == BRACE:
        return ((CHARACTER, BRACE), place + 1)
    kind = tag_kind(text[place])
    if kind == CHARACTER:
        return (None, place)
    return read_tag_number(text, place + 1, kind)


def tag_kind(sign):
    """The kind of tag that a sign begins; CHARACTER where it begins none."""
    if sign == PLUS:
        return OPENING
    if sign == MINUS:
        return CLOSING
    if sign == POINT:
        return ALONE
    return CHARACTER


def read_tag_number(text, place, kind):
    """The tag of a kind whose number begins at the place."""
    number = 0
    at = place
    while at < len(text) and tag_number_goes_on(number, text[at]):
        number = number * 10 + text[at] - NOUGHT
        at = at + 1
    if at < len(text) and number > 0 and text[at] == BRACE_END:
        return ((kind, number), at + 1)
    return (None, at)


def tag_number_goes_on(number, sign):
    """Whether a tag's number, of which so much is read, goes on with this sign."""
    if sign < NOUGHT or sign > NINE:
        return False
    longer = number * 10 + sign - NOUGHT
    # A nought in front leaves the number at 0, which no tag has.
    return 1 <= longer and longer <= GREATEST_TAG


def read_character(text, place):
    """The character whose first byte is at the place."""
    length = length_by_lead(text[place])
    if length == 0:
        return (None, place)
    number = text[place] - LEAD_MARKS[length]
    for at in range(place, place + length):
        if at == len(text):
            return (None, at)
        if at > place:
            if text[at] < 0x80 or text[at] > 0xBF:
                return (None, at)
            number = number * 64 + text[at] - 0x80
        if not leads_to_character(number, length, place + length - 1 - at):
            return (None, at)
    return ((CHARACTER, number), place + length)


def length_by_lead(lead):
    """How many bytes a character with this first byte has; 0 where none begins so."""
    if lead < 0x80:
        return 1
    if lead < 0xC0:
        return 0
    if lead < 0xE0:
        return 2
    if lead < 0xF0:
        return 3
    if lead < 0xF8:
        return 4
    return 0


def leads_to_character(number, length, missing):
    """Whether some character of that many bytes begins with the bits read, some bytes of six bits still missing."""
    low = number
    high = number
    for turn in range(missing):
        low = low * 64
        high = high * 64 + 63
    first = first_character_from(max(low, LEAST_NUMBERS[length]))
    return first <= min(high, GREATEST_CHARACTER)


def first_character_from(number):
    """The least character at a number or above; some number above them all where there's none."""
    if number < 0x20:
        return 0x20
    if 0x7F <= number and number <= 0x9F:
        return 0xA0
    if 0xD800 <= number and number <= 0xDFFF:
        return 0xE000
    if number % 0x10000 >= 0xFFFE:
        return (number // 0x10000 + 1) * 0x10000
    return number
