"""Which acts a record asks for, and what the ring is once they are done."""

from ringstore.acts import Erase, Program
from ringstore.layout import HEAD_SIZE, NOTE, NOTE_SIZE, NUMBER_SIZE, RECORD_FRAME
from ringstore.layout import Head, head_bytes, number_bytes, record_bytes

# Records leave room for two notes, so that a sector can still be let go.
NOTES_ROOM = 24


class Plan:
    """Acts in their order, and the ring as they leave it."""

    def __init__(self, ring):
        self.ring = ring.twin()
        self.acts = []

    def add_record(self, kind, body):
        """A record at the place; its first byte falls last, for then it's whole."""
        ring = self.ring
        row = record_bytes(kind, body)
        self.acts.append(Program(ring.newest, ring.place + 1, row[1:]))
        self.acts.append(Program(ring.newest, ring.place, row[:1]))
        ring.place += len(row)

    def add_head(self, sector, head):
        """The head of a sector that begins."""
        self.acts.append(Program(sector, 0, head_bytes(head)))

    def add_erase(self, sector):
        """A sector erased."""
        self.acts.append(Erase(sector, self.ring.m))


def size_in_new_sector(body):
    """How many bytes a sector must have for a record with this body."""
    return HEAD_SIZE + RECORD_FRAME + len(body) + NOTES_ROOM


def fits_in_newest(ring, body):
    """Whether a record goes into the newest sector."""
    if ring.newest in ring.dead:
        return False
    return ring.place + RECORD_FRAME + len(body) + NOTES_ROOM <= ring.m


def can_take_note(ring):
    """Whether there's a place for a note in the newest sector."""
    return ring.newest not in ring.dead and ring.place + NOTE_SIZE <= ring.m


def can_begin_sector(ring):
    """Whether a new sector can be begun."""
    spare = ring.spare()
    if spare == ring.newest or ring.behind(spare) == spare:
        return False
    return not ring.is_there(spare) or can_take_note(ring)


def let_spare_go(plan):
    """Clear the spare sector; gives back the least age that's there behind that."""
    ring = plan.ring
    spare = ring.spare()
    if not ring.is_there(spare):
        if not ring.clean:
            plan.add_erase(spare)
        return ring.ages[ring.oldest()]
    # The note comes before the erase: a torn erase must not leave a sector that seems to be there.
    least = ring.ages[spare] + 1
    plan.add_record(NOTE, number_bytes(least, NUMBER_SIZE))
    ring.drop_below(least)
    plan.add_erase(spare)
    return least


def begin_sector(plan):
    """Begin a new sector, where that can be."""
    ring = plan.ring
    spare = ring.spare()
    after = ring.behind(spare)
    age = ring.ages[ring.newest] + 1
    least = let_spare_go(plan)
    # If the newest itself goes, no sector is left there, and this least age is the new sector's own.
    if ring.is_there(after):
        least = ring.ages[after] + 1
    ring.drop_below(least)
    plan.add_head(spare, Head(age, least, ring.next_number))
    plan.add_erase(after)
    ring.ages[spare] = age
    ring.newest = spare
    ring.place = HEAD_SIZE
    ring.clean = True


def plan_append(ring, kind, body):
    """The plan of a record appended; None if it can't be."""
    plan = Plan(ring)
    if not fits_in_newest(ring, body):
        if not can_begin_sector(ring):
            return None
        begin_sector(plan)
    plan.add_record(kind, body)
    plan.ring.next_number += 1
    return plan
