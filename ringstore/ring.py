"""What an open ring knows, and how it is opened from the bytes of its sectors."""

from ringstore.layout import HEAD_SIZE, NOTE, bytes_number, is_erased, read_head, read_records, record_end
from ringstore.layout import without_notes


class Ring:
    """The knowledge of an open ring of n sectors of m bytes."""

    def __init__(self, n, m, dead):
        self.n = n
        self.m = m
        self.dead = dead
        self.ages = {}
        self.newest = 0
        self.place = HEAD_SIZE
        self.next_number = 1
        self.clean = False

    def twin(self):
        """A ring that knows the same and can change by itself."""
        other = Ring(self.n, self.m, dict(self.dead))
        other.ages = dict(self.ages)
        other.newest = self.newest
        other.place = self.place
        other.next_number = self.next_number
        other.clean = self.clean
        return other

    def behind(self, sector):
        """The next sector, round, that isn't dead; itself, if there's no other."""
        for step in range(1, self.n):
            other = (sector + step) % self.n
            if other not in self.dead:
                return other
        return sector

    def spare(self):
        """The sector behind the newest."""
        return self.behind(self.newest)

    def look_at_spare(self, sectors):
        """Whether the spare sector is clean, looked at anew."""
        self.clean = is_erased(sectors[self.spare()])

    def is_there(self, sector):
        """Whether the sector's records are there."""
        return sector in self.ages

    def oldest(self):
        """The sector of the least age that's there."""
        return min(list(self.ages), key=lambda sector: self.ages[sector])

    def drop_below(self, least):
        """Sectors of ages below the least aren't there any more."""
        for sector in list(self.ages):
            if self.ages[sector] < least:
                self.ages.pop(sector)


def read_heads(sectors):
    """The heads of all sectors that have one, by sector."""
    heads = {}
    for sector, row in enumerate(sectors):
        head = read_head(row)
        if head is not None:
            heads[sector] = head
    return heads


def greatest_age(heads):
    """The sector of the greatest age, of two alike the first; None without heads."""
    newest = None
    for sector, head in heads.items():
        if newest is None or head.age > heads[newest].age:
            newest = sector
    return newest


def least_age(head, records):
    """The least age that's still there, as the newest sector's head and notes tell it."""
    least = head.least
    for record in records:
        if record.kind == NOTE:
            least = max(least, bytes_number(record.body))
    return least


def next_place(row, records):
    """Where the next record goes in the newest sector."""
    place = HEAD_SIZE
    if records:
        place = record_end(records[-1])
    if is_erased(row[place:]):
        return place
    # What a torn act left there can't be programmed over.
    return len(row)


def opened(sectors, dead):
    """The ring that the sectors tell, with these dead; None if no sector has a head."""
    heads = read_heads(sectors)
    newest = greatest_age(heads)
    if newest is None:
        return None
    row = sectors[newest]
    records = read_records(row)
    ring = Ring(len(sectors), len(row), dead)
    for sector, head in heads.items():
        ring.ages[sector] = head.age
    ring.drop_below(least_age(heads[newest], records))
    ring.newest = newest
    ring.place = next_place(row, records)
    ring.next_number = heads[newest].first + len(without_notes(records))
    ring.look_at_spare(sectors)
    return ring


def find_record(ring, sectors, number):
    """The record of this number in a sector that's there; None if there's none."""
    for sector in ring.ages:
        row = sectors[sector]
        first = read_head(row).first
        records = without_notes(read_records(row))
        if first <= number < first + len(records):
            return records[number - first]
    return None
