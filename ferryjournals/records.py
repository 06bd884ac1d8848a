"""Records, and the journals that are sets of them."""

TARGET = 1
VERDICT = 2
TAKING_BACK = 3
REMARK = 4

APPROVED = 4

PERSONS = 256
MOST_OVER = 16
MOST_RECORDS = 256
MOST_PIECES = 16384


class Record:
    """A record. Its stamp is a number, its segment's name a pair; source and row are kept as their texts,
    since a row has one text and a text at most one row; size is how many pieces both have together."""

    def __init__(self, stamp, kind, name, state, over, source, row, size):
        self.stamp = stamp
        self.kind = kind
        self.name = name
        self.state = state
        self.over = over
        self.source = source
        self.row = row
        self.size = size


class Journal:
    """A set of records, by their stamps. Nothing else is kept, so that all is told by the set alone."""

    def __init__(self):
        self.records = {}

    def has_stamp(self, stamp):
        return stamp in self.records

    def ordered(self):
        """Its records in the order of their stamps."""
        return [self.records[stamp] for stamp in sorted(self.records)]

    def has_room(self, coming):
        """Whether the journal stays within its bounds with some more records."""
        pieces = sum([record.size for record in self.records.values()]) + sum([record.size for record in coming])
        return len(self.records) + len(coming) <= MOST_RECORDS and pieces <= MOST_PIECES

    def put_in(self, record):
        self.records[record.stamp] = record


def stamp_number(tick, who):
    return tick * PERSONS + who


def tick_of(record):
    return record.stamp // PERSONS


def person_of(record):
    return record.stamp % PERSONS


def is_same(one, other):
    """Whether two records are the same one; size goes with the texts."""
    if one.stamp != other.stamp or one.kind != other.kind or one.name != other.name or one.state != other.state:
        return False
    return one.over == other.over and one.source == other.source and one.row == other.row


def is_kind(kind):
    return kind in (TARGET, VERDICT, TAKING_BACK, REMARK)


def state_may_be(kind, state):
    """Whether a record of that kind may have that state."""
    if kind == TARGET:
        return 1 <= state and state < APPROVED
    if kind == VERDICT:
        return 1 <= state and state <= APPROVED
    return state == 0


def over_may_be(kind, over):
    """Whether a record of that kind may be over so many stamps, and whether they rise."""
    if kind == REMARK:
        return over == []
    if kind == VERDICT:
        return len(over) == 1
    fewest = 0 if kind == TARGET else 1
    return fewest <= len(over) and len(over) <= MOST_OVER and is_rising(over)


def is_rising(numbers):
    return all([numbers[place] < numbers[place + 1] for place in range(len(numbers) - 1)])
