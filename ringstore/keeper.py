"""The store with its ring, and the calls on it."""

from ringstore.acts import Program
from ringstore.layout import ERASED, Head, head_bytes, read_head
from ringstore.planning import plan_append, size_in_new_sector
from ringstore.ring import find_record, opened

WRONG = -1
NOT_FOUND = -2
DEAD_ALREADY = -2
NOT_NOW = -4
NO_ROOM = -5


class Keeper:
    """The sectors, the ring while it's open, the plan while acts are under way."""

    def __init__(self):
        self.sectors = []
        self.ring = None
        self.plan = None

    def make(self, n, m):
        """A new store of n sectors of m bytes, open."""
        if not (4 <= n <= 64 and 128 <= m <= 4096):
            return [WRONG]
        self.sectors = [[ERASED] * m for k in range(n)]
        Program(0, 0, head_bytes(Head(1, 1, 1))).carry_out(self.sectors)
        self.ring = opened(self.sectors, {})
        self.plan = None
        return [0]

    def open_ring(self, dead):
        """The ring opened from the bytes, with these sectors dead."""
        if not are_different_below(dead, len(self.sectors)):
            return [WRONG]
        if self.plan is not None:
            return [NOT_NOW]
        ring = opened(self.sectors, marked(dead))
        if ring is None:
            return [NOT_FOUND]
        self.ring = ring
        return [0, self.first_number(), ring.next_number]

    def first_number(self):
        """The first record's number that's there."""
        return read_head(self.sectors[self.ring.oldest()]).first

    def append_record(self, kind, body):
        """A record's acts put under way."""
        if not 1 <= kind <= 255 or not are_bytes(body):
            return [WRONG]
        if size_in_new_sector(body) > len(self.sectors[0]):
            return [WRONG]
        if self.plan is not None or self.ring is None:
            return [NOT_NOW]
        plan = plan_append(self.ring, kind, body)
        if plan is None:
            return [NO_ROOM]
        self.plan = plan
        return [self.ring.next_number, len(plan.acts)]

    def acts_under_way(self):
        """The acts that are under way, in their order."""
        if self.plan is None:
            return []
        return self.plan.acts

    def settle(self):
        """All that's under way done."""
        acts = self.acts_under_way()
        for act in acts:
            act.carry_out(self.sectors)
        if self.plan is not None:
            self.ring = self.plan.ring
        self.plan = None
        return [len(acts)]

    def cut(self, i, mask):
        """The power gone at the i-th act, which is torn by the mask."""
        acts = self.acts_under_way()
        if i >= len(acts) or len(mask) != acts[i].size() or not are_bytes(mask):
            return [WRONG]
        for act in acts[:i]:
            act.carry_out(self.sectors)
        acts[i].tear(self.sectors, mask)
        self.ring = None
        self.plan = None
        return [0]

    def read_record(self, number):
        """A record's kind and body, as it was before what's under way."""
        if self.ring is None:
            return [NOT_NOW]
        record = find_record(self.ring, self.sectors, number)
        if record is None:
            return [NOT_FOUND]
        return [record.kind] + record.body

    def mark_dead(self, sector):
        """A sector dead from now on; its records stay there."""
        if sector >= len(self.sectors):
            return [WRONG]
        if self.plan is not None or self.ring is None:
            return [NOT_NOW]
        if sector in self.ring.dead:
            return [DEAD_ALREADY]
        self.ring.dead[sector] = True
        # Another sector may be the spare one now.
        self.ring.look_at_spare(self.sectors)
        return [0, len(self.ring.dead)]

    def told(self):
        """What the ring knows, as it was before what's under way."""
        ring = self.ring
        if ring is None:
            return [NOT_NOW]
        there = [self.first_number(), ring.next_number, len(ring.ages)]
        newest = [ring.newest, ring.ages[ring.newest], ring.place]
        spare = [ring.spare(), 1 if ring.clean else 0]
        return [0] + there + newest + spare + [len(self.acts_under_way())]

    def sector_bytes(self, k):
        """A sector's size and its bytes."""
        if k >= len(self.sectors):
            return [WRONG]
        row = self.sectors[k]
        return [len(row)] + row

    def acts_told(self):
        """How many acts are under way, then the numbers of each."""
        acts = self.acts_under_way()
        numbers = [len(acts)]
        for act in acts:
            numbers.extend(act.described())
        return numbers


def are_bytes(row):
    """Whether all numbers of the row are bytes."""
    return all([number <= 255 for number in row])


def are_different_below(row, bound):
    """Whether all numbers of the row are below the bound, none twice."""
    return all([number < bound for number in row]) and len(set(row)) == len(row)


def marked(row):
    """The numbers of the row as keys of a dict."""
    marks = {}
    for number in row:
        marks[number] = True
    return marks
