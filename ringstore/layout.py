"""How heads and records lie in the bytes of a sector."""

ERASED = 255
NUMBER_SIZE = 8
HALF_HEAD = 24
HEAD_SIZE = 48
RECORD_FRAME = 4
NOTE = 0
NOTE_SIZE = 12


class Head:
    """What stands at a sector's beginning."""

    def __init__(self, age, least, first):
        self.age = age
        self.least = least
        self.first = first


class Record:
    """A record, and the place in its sector where it begins."""

    def __init__(self, place, kind, body):
        self.place = place
        self.kind = kind
        self.body = body


def number_bytes(number, size):
    """The number in so many bytes, the lowest first."""
    return [(number >> (8 * k)) & 255 for k in range(size)]


def bytes_number(row):
    """The number that the bytes stand for, the lowest first."""
    number = 0
    for byte in reversed(row):
        number = number * 256 + byte
    return number


def inverted(row):
    """Each byte as 255 less it."""
    return [255 - byte for byte in row]


def head_bytes(head):
    """The 48 bytes of a head."""
    half = []
    for number in (head.age, head.least, head.first):
        half.extend(number_bytes(number, NUMBER_SIZE))
    return half + inverted(half)


def read_head(sector):
    """The head of a sector, or None where the two halves don't fit."""
    half = sector[:HALF_HEAD]
    if sector[HALF_HEAD:HEAD_SIZE] != inverted(half):
        return None
    age = bytes_number(half[:8])
    least = bytes_number(half[8:16])
    return Head(age, least, bytes_number(half[16:]))


def record_bytes(kind, body):
    """A whole record: its first byte, its body's length, its kind, its body."""
    return [0] + number_bytes(len(body), 2) + [kind] + body


def record_end(record):
    """The place behind a record."""
    return record.place + RECORD_FRAME + len(record.body)


def read_records(sector):
    """The records of a sector with a head, notes too, in their order."""
    records = []
    place = HEAD_SIZE
    while place < len(sector) and sector[place] != ERASED:
        start = place + RECORD_FRAME
        size = bytes_number(sector[place + 1:place + 3])
        record = Record(place, sector[place + 3], sector[start:start + size])
        records.append(record)
        place = start + size
    return records


def without_notes(records):
    """The records that have a number, in their order."""
    return [record for record in records if record.kind != NOTE]


def is_erased(row):
    """Whether all the bytes are 255."""
    return row.count(ERASED) == len(row)
