"""Records, and the journals that are sets of them."""

TARGET = 1
VERDICT = 2
TAKING_BACK = 3
REMARK = 4

PERSONS = 256
MOST_RECORDS = 256
MOST_PIECES = 16384


class Record:
    """A record. Its stamp is a number, its segment's name a pair; source and row are kept as their texts,
    since a row has one text and a text at most one row; size is how many pieces both have together."""

    def __init__(self, stamp, kind, name, state, over, source, row, size):
        self.stamp = stamp
        self.kind = kind
        self.name = name
        self.state = state
        self.over = over
        self.source = source
        self.row = row
        self.size = size


class Journal:
    """A set of records, by their stamps. Nothing else is kept, so that all is told by the set alone."""

    def __init__(self):
        self.records = {}

    def has_stamp(self, stamp):
        return stamp in self.records

    def ordered(self):
        """Its records in the order of their stamps."""
        return [self.records[stamp] for stamp in sorted(self.records)]

    def has_room(self, record):
        """Whether the journal stays within its bounds with one more record."""
        pieces = sum([kept.size for kept in self.records.values()])
        return len(self.records) < MOST_RECORDS and pieces + record.size <= MOST_PIECES

    def put_in(self, record):
        self.records[record.stamp] = record


def stamp_number(tick, who):
    return tick * PERSONS + who


def tick_of(record):
    return record.stamp // PERSONS


def person_of(record):
    return record.stamp % PERSONS
