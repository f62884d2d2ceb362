"""The store with its ring, and the calls on it."""

from ringstore.acts import Program
from ringstore.layout import ERASED, Head, head_bytes, read_head
from ringstore.planning import plan_append, size_in_new_sector
from ringstore.ring import opened

WRONG = -1
NOT_FOUND = -2
NOT_NOW = -4
NO_ROOM = -5


class Keeper:
    """The sectors, the ring while it's open, the plan while acts are under way."""

    def __init__(self):
        self.sectors = []
        self.ring = None
        self.plan = None

    def make(self, n, m):
        """A new store of n sectors of m bytes, open."""
        if not (4 <= n <= 64 and 128 <= m <= 4096):
            return [WRONG]
        self.sectors = [[ERASED] * m for k in range(n)]
        Program(0, 0, head_bytes(Head(1, 1, 1))).carry_out(self.sectors)
        self.ring = opened(self.sectors, {})
        self.plan = None
        return [0]

    def open_ring(self, dead):
        """The ring opened from the bytes, with these sectors dead."""
        if not are_different_below(dead, len(self.sectors)):
            return [WRONG]
        if self.plan is not None:
            return [NOT_NOW]
        ring = opened(self.sectors, marked(dead))
        if ring is None:
            return [NOT_FOUND]
        self.ring = ring
        return [0, self.first_number(), ring.next_number]

    def first_number(self):
        """The first record's number that's there."""
        return read_head(self.sectors[self.ring.oldest()]).first

    def append_record(self, kind, body):
        """A record's acts put under way."""
        if not 1 <= kind <= 255 or not are_bytes(body):
            return [WRONG]
        if size_in_new_sector(body) > len(self.sectors[0]):
            return [WRONG]
        if self.plan is not None or self.ring is None:
            return [NOT_NOW]
        plan = plan_append(self.ring, kind, body)
        if plan is None:
            return [NO_ROOM]
        self.plan = plan
        return [self.ring.next_number, len(plan.acts)]

    def acts_under_way(self):
        """The acts that are under way, in their order."""
        if self.plan is None:
            return []
        return self.plan.acts

    def settle(self):
        """All that's under way done."""
        acts = self.acts_under_way()
        for act in acts:
            act.carry_out(self.sectors)
        if self.plan is not None:
            self.ring = self.plan.ring
        self.plan = None
        return [len(acts)]

    def cut(self, i, mask):
        """The power gone at the i-th act, which is torn by the mask."""
        acts = self.acts_under_way()
        if i >= len(acts) or len(mask) != acts[i].size() or not are_bytes(mask):
            return [WRONG]
        for act in acts[:i]:
            act.carry_out(self.sectors)
        acts[i].tear(self.sectors, mask)
        self.ring = None
        self.plan = None
        return [0]


def are_bytes(row):
    """Whether all numbers of the row are bytes."""
    return all([number <= 255 for number in row])


def are_different_below(row, bound):
    """Whether all numbers of the row are below the bound, none twice."""
    return all([number < bound for number in row]) and len(set(row)) == len(row)


def marked(row):
    """The numbers of the row as keys of a dict."""
    marks = {}
    for number in row:
        marks[number] = True
    return marks
