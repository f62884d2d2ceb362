"""Sectors written by hand, for what calls alone don't lead to."""

from ringstore.acts import Erase
from ringstore.keeper import Keeper


def head(age, least, first):
    half = [byte for number in (age, least, first) for byte in number.to_bytes(8, "little")]
    return half + [255 - byte for byte in half]


def record(kind, body):
    return [0, len(body) % 256, len(body) // 256, kind] + list(body)


def note(age):
    return record(0, age.to_bytes(8, "little"))


def sector(m, *parts):
    """The parts one behind another, then 255 to the end."""
    row = [byte for part in parts for byte in part]
    return row + [255] * (m - len(row))


def keeper_of(rows):
    """A keeper whose sectors hold these bytes, not open."""
    keeper = Keeper()
    keeper.make(len(rows), len(rows[0]))
    keeper.sectors = [list(row) for row in rows]
    keeper.ring = None
    return keeper


def acts_of(keeper):
    """Each act under way as a tuple: (sector,) of an erase, (sector, place, bytes) of a program."""
    return [(act.sector,) if isinstance(act, Erase) else (act.sector, act.place, act.content)
            for act in keeper.acts_under_way()]


def kept_records(keeper):
    """The kind and body of each record that's there, by its number."""
    found = {}
    for place in sorted(keeper.ring.ages, key=keeper.ring.ages.get):
        row = keeper.sectors[place]
        number = int.from_bytes(bytes(row[16:24]), "little")
        at = 48
        while at < len(row) and row[at] != 255:
            size = row[at + 1] + 256 * row[at + 2]
            if row[at + 3] != 0:
                found[number] = (row[at + 3], row[at + 4:at + 4 + size])
                number += 1
            at += 4 + size
    return found
