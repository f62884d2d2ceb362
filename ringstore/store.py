"""The calls on one store as one list of whole numbers, and their answers as another."""

from ringstore.keeper import Keeper

MAKE = 0
OPEN = 1
APPEND = 2
SETTLE = 3
CUT = 4
READ = 5
DEAD = 6
TOLD = 7
SECTOR = 8
ACTS = 9


class UnknownCall(ValueError):
    """A call's number that isn't told."""


class Reader:
    """Goes through a list of calls without changing it."""

    def __init__(self, calls):
        self.calls = calls
        self.at = 0

    def has_more(self):
        """Whether a call is left."""
        return self.at < len(self.calls)

    def take_number(self):
        """The next whole number."""
        number = self.calls[self.at]
        self.at += 1
        return number

    def take_row(self):
        """The next row, which has how many numbers it has before it."""
        size = self.take_number()
        row = self.calls[self.at:self.at + size]
        self.at += size
        return row


def answer_call(keeper, reader):
    """Read one call, do it, and give back what it answers."""
    call = reader.take_number()
    if call == MAKE:
        n = reader.take_number()
        m = reader.take_number()
        return keeper.make(n, m)
    if call == OPEN:
        return keeper.open_ring(reader.take_row())
    if call == APPEND:
        kind = reader.take_number()
        body = reader.take_row()
        return keeper.append_record(kind, body)
    if call == SETTLE:
        return keeper.settle()
    if call == CUT:
        i = reader.take_number()
        mask = reader.take_row()
        return keeper.cut(i, mask)
    if call == DEAD:
        return keeper.mark_dead(reader.take_number())
    return answer_look(keeper, reader, call)


def answer_look(keeper, reader, call):
    """What a call answers that changes nothing."""
    if call == READ:
        return keeper.read_record(reader.take_number())
    if call == TOLD:
        return keeper.told()
    if call == SECTOR:
        return keeper.sector_bytes(reader.take_number())
    if call == ACTS:
        return keeper.acts_told()
    raise UnknownCall(f"there is no call {call}")


def answers(calls):
    """For each call how many numbers are answered, then these."""
    keeper = Keeper()
    reader = Reader(calls)
    given = []
    while reader.has_more():
        answer = answer_call(keeper, reader)
        given.append(len(answer))
        given.extend(answer)
    return given
