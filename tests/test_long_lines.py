"""Long lines of all ten calls: whatever is cut and however, every record that was there is read again."""

import copy
import random
import unittest

from ringstore.keeper import Keeper
from ringstore.store import Reader, answer_call
from tests.dice import random_mask
from tests.lines import TOP, acts, append, cut, dead, make, opening, read, run, sector_of, settle, told

MOST_CALLS = 300
MOST_NUMBERS = 16000


def acts_apart(row):
    """What acts answers, as (sector, size of its mask or None for m) of each."""
    found, at = [], 1
    while at < len(row):
        if row[at] == 1:
            found.append((row[at + 1], None))
            at += 2
        else:
            found.append((row[at + 1], row[at + 3]))
            at += 4 + row[at + 3]
    if len(found) != row[0]:
        raise AssertionError("acts tells another count than it has acts")
    return found


class Walk:
    """A line that grows call by call, and the records that it wrote."""

    def __init__(self, test, seed, n, m):
        self.test = test
        self.dice = random.Random(seed)
        self.n = n
        self.m = m
        self.keeper = Keeper()
        self.calls = []
        self.given = []
        self.written = {}
        self.lost = []
        self.ask(make(n, m))

    def ask(self, call):
        answer = answer_call(self.keeper, Reader(call))
        self.calls.append(call)
        self.given.append(answer)
        return answer

    def has_room(self):
        """Whether another round, with every record read, stays within what a line may hold."""
        return len(self.calls) < MOST_CALLS - 60 and sum(map(len, self.calls)) < MOST_NUMBERS - 2 * self.m

    def read_all(self):
        """Each record that's there read again, and none beyond; the first number and the next."""
        first, following = self.ask(told())[1:3]
        for number in range(first, following):
            self.test.assertEqual(self.ask(read(number)), self.written[number])
        for number in (first - 1, following, self.dice.choice((0, TOP))):
            self.test.assertEqual(self.ask(read(number)), [-2])
        return first, following

    def look(self):
        """The sectors and acts are as the calls before left them."""
        k = self.dice.randrange(self.n)
        row = self.ask(sector_of(k))
        self.test.assertEqual(row, [self.m] + self.keeper.sectors[k])
        self.test.assertEqual(self.ask(sector_of(self.n)), [-1])

    def begin(self):
        """An append; its number and the acts under way, or None if it can't be."""
        kind = self.dice.randrange(1, 256)
        body = [self.dice.randrange(256) for k in range(self.dice.randrange(self.m // 5, self.m - 75))]
        before = self.ask(told())
        answer = self.ask(append(kind, body))
        if answer == [-5]:
            self.test.assertEqual(self.ask(told()), before)
            return None
        self.test.assertEqual(answer[0], before[2])
        under = acts_apart(self.ask(acts()))
        self.test.assertEqual(len(under), answer[1])
        self.test.assertEqual(self.ask(told()), before[:9] + [len(under)])
        return answer[0], [kind] + body, under

    def settle_it(self, begun):
        number, row, under = begun
        self.test.assertEqual(self.ask(settle()), [len(under)])
        self.written[number] = row

    def cut_it(self, begun):
        """A cut at any act by any mask, and an open; the record is there whole or not at all."""
        number, row, under = begun
        first = self.keeper.first_number()
        whole = copy.deepcopy(self.keeper)
        whole.settle()
        i = self.dice.randrange(len(under))
        size = self.m if under[i][1] is None else under[i][1]
        self.test.assertEqual(self.ask(cut(i, random_mask(self.dice, size))), [0])
        self.test.assertEqual([self.ask(call) for call in (told(), read(first), dead(0), append(1, []), acts())],
                              [[-4], [-4], [-4], [-4], [0]])
        opened = self.ask(opening(self.lost))
        self.test.assertIn(opened[2], (number, number + 1))
        if opened[2] == number + 1:
            self.written[number] = row
        self.test.assertEqual(self.read_all(), (opened[1], opened[2]))
        self.test.assertTrue(first <= opened[1] <= whole.first_number())

    def lose(self):
        """A sector dies; no record goes with it."""
        k = self.dice.randrange(self.n)
        answer = self.ask(dead(k))
        if k in self.lost:
            self.test.assertEqual(answer, [-2])
            return
        self.lost.append(k)
        self.test.assertEqual(answer, [0, len(self.lost)])
        self.read_all()

    def revive(self):
        self.lost = [k for k in range(self.n) if self.dice.randrange(6) == 0]
        opened = self.ask(opening(self.lost))
        self.test.assertEqual(self.read_all(), (opened[1], opened[2]))

    def again(self):
        self.test.assertEqual(self.ask(make(self.n, self.m)), [0])
        self.written, self.lost = {}, []

    def step(self):
        pick = self.dice.randrange(40)
        if pick == 0:
            self.again()
        elif pick < 4:
            self.lose()
        elif pick < 6:
            self.look()
        else:
            begun = self.begin()
            if begun is None:
                self.revive()
            elif pick < 14:
                self.cut_it(begun)
            else:
                self.settle_it(begun)


class LongLinesTest(unittest.TestCase):
    def walk(self, seed, n, m):
        walk = Walk(self, seed, n, m)
        while walk.has_room():
            walk.step()
        walk.read_all()
        self.assertLessEqual(len(walk.calls), MOST_CALLS)
        self.assertLessEqual(sum(map(len, walk.calls)), MOST_NUMBERS)
        self.assertEqual(run(walk.calls), walk.given, seed)
        return walk

    def test_small_sectors(self):
        kinds = set()
        for seed in range(150):
            walk = self.walk(seed, 4 + seed % 5, 128 + seed % 7)
            kinds |= {call[0] for call in walk.calls}
        self.assertEqual(kinds, set(range(10)))

    def test_larger_sectors(self):
        for seed in range(30):
            self.walk(seed, (4, 6, 64)[seed % 3], (300, 700, 1000)[seed % 3])


if __name__ == "__main__":
    unittest.main()
