"""Calls written as the interface wants them, and answers told apart again."""

from ringstore.store import answers

TOP = 2 ** 64 - 1


def make(n, m):
    return [0, n, m]


def opening(dead=()):
    return [1, len(dead)] + list(dead)


def append(kind, body):
    return [2, kind, len(body)] + list(body)


def settle():
    return [3]


def cut(i, mask):
    return [4, i, len(mask)] + list(mask)


def read(number):
    return [5, number]


def dead(sector):
    return [6, sector]


def told():
    return [7]


def sector_of(k):
    return [8, k]


def acts():
    return [9]


def appended(kind, body):
    """An append and its settle, as two calls."""
    return [append(kind, body), settle()]


def told_apart(given):
    """The answers of the calls, one list each."""
    rows = []
    at = 0
    while at < len(given):
        size = given[at]
        rows.append(given[at + 1:at + 1 + size])
        at += 1 + size
    if at != len(given):
        raise AssertionError("the last answer is shorter than its count")
    return rows


def run(calls):
    """The answers of these calls (a list of lists of numbers) on one new store."""
    line = [number for call in calls for number in call]
    return told_apart(answers(line))


def last(calls):
    """The last call's answer."""
    return run(calls)[-1]


def full_sectors(count, m=128):
    """Appends that fill so many sectors of m bytes with one record each."""
    calls = []
    for k in range(count):
        calls += appended(1 + k % 255, [k % 256] * (m - 76))
    return calls
