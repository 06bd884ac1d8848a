"""Tags of rows: which rows are straight, and which targets fit a segment."""

from ferryjournals.texts import ALONE, CHARACTER, CLOSING, OPENING


class Shape:
    """What a row's tags come to: whether it's straight; then its tags, its left halves, its right halves."""

    def __init__(self):
        self.straight = True
        self.tags = {}
        self.lefts = []
        self.pile = []


def shape_of(pieces):
    """The Shape of a row, gone through from the left; its right halves are what lies on the pile at the end."""
    shape = Shape()
    for piece in pieces:
        if piece[0] != CHARACTER:
            take_tag(shape, piece)
    return shape


def take_tag(shape, tag):
    if stands_wrong(shape.tags, tag[0], tag[1]):
        shape.straight = False
    shape.tags[tag] = True
    if tag[0] == OPENING:
        shape.pile.append(tag[1])
    if tag[0] == CLOSING:
        take_close(shape, tag[1])


def take_close(shape, number):
    if shape.pile == []:
        shape.lefts.append(number)
    elif shape.pile[-1] == number:
        shape.pile.pop()
    else:
        shape.straight = False


def stands_wrong(tags, kind, number):
    """Whether a tag may not stand behind these: twice, alone beside open or close, or open behind its close."""
    if (kind, number) in tags or (ALONE, number) in tags:
        return True
    if kind == ALONE:
        return (OPENING, number) in tags or (CLOSING, number) in tags
    return kind == OPENING and (CLOSING, number) in tags


def is_straight(pieces):
    return shape_of(pieces).straight


def fits(target, segment):
    """Whether a target fits a segment whose row is straight; both are rows' pieces."""
    one = shape_of(target)
    other = shape_of(segment)
    if not one.straight or one.tags != other.tags:
        return False
    return one.lefts == other.lefts and one.pile == other.pile
