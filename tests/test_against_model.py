"""Long lines of calls, ordinary and wrong, beside the model: the same answers, bytes, acts and ring."""

import random
import unittest

from ringstore.keeper import Keeper
from ringstore.store import Reader, answer_call
from tests.dice import random_mask
from tests.handmade import acts_of
from tests.lines import TOP, acts, append, cut, dead, make, opening, read, run, sector_of, settle, told
from tests.model import Model


def random_cut(dice, model):
    if not model.acts or dice.randrange(8) == 0:
        return cut(dice.choice((0, 1, 7, TOP)), [dice.choice((0, 255, 256))] * dice.choice((0, 1, 3)))
    i = dice.randrange(len(model.acts))
    mask = random_mask(dice, model.length(model.acts[i]))
    if dice.randrange(10) == 0:
        mask = mask[1:]
    return cut(i, mask)


def random_append(dice, m):
    kind = dice.choice((0, 256, TOP)) if dice.randrange(15) == 0 else dice.randrange(1, 256)
    size = dice.choice((0, 1, 8, m - 77, m - 76, m - 76, m - 75, dice.randrange(m - 75)))
    body = [dice.randrange(256) for p in range(size)]
    if size and dice.randrange(15) == 0:
        body[dice.randrange(size)] = dice.choice((256, TOP))
    return append(kind, body)


def random_look(dice, model):
    """One of the calls that change nothing."""
    n = len(model.memory)
    pick = dice.randrange(4)
    if pick == 0:
        return read(random_number(dice, model))
    if pick == 1:
        return sector_of(dice.choice((0, n - 1, n, TOP, dice.randrange(n))))
    return told() if pick == 2 else acts()


def random_number(dice, model):
    """A record's number, mostly one that's there or just beyond."""
    if not model.is_open:
        return dice.choice((0, 1, 2, TOP))
    first, following = model.told()[1:3]
    return dice.choice((0, TOP, max(0, first - 1), first, following - 1, following, dice.randrange(first, following + 1)))


def random_call(dice, model):
    n, m = len(model.memory), len(model.memory[0])
    pick = dice.randrange(30)
    if pick >= 22:
        return random_look(dice, model)
    if pick >= 20:
        return dead(dice.choice((n, TOP)) if dice.randrange(12) == 0 else dice.randrange(n))
    if pick == 0 and dice.randrange(4) == 0:
        return make(dice.choice((3, 4, 5, 65)), dice.choice((127, 128, 130)))
    if pick < 2 or not model.is_open and pick < 12:
        lost = [s for s in range(n) if dice.randrange(4) == 0]
        if dice.randrange(12) == 0:
            lost.append(dice.choice((n, TOP, 0, n - 1)))
        return opening(lost)
    if model.acts:
        return random_cut(dice, model) if pick < 6 else random_append(dice, m) if pick < 7 else settle()
    if pick < 4:
        return dice.choice((settle(), random_cut(dice, model)))
    return random_append(dice, m)


class AgainstModelTest(unittest.TestCase):
    def compare(self, keeper, model, why):
        self.assertEqual(keeper.sectors, model.memory, why)
        self.assertEqual(acts_of(keeper), model.acts, why)
        self.assertEqual(keeper.ring is not None, model.is_open, why)
        if model.is_open:
            ring = keeper.ring
            known = (ring.newest, ring.ages, ring.place, ring.next_number, ring.clean)
            self.assertEqual(known, model.look(), why)
            self.assertEqual(sorted(ring.dead), sorted(model.dead), why)

    def drive(self, seed, n, m, count):
        dice = random.Random(seed)
        keeper, model = Keeper(), Model()
        calls = [make(n, m)]
        given = []
        while calls:
            call = calls[-1]
            answer = answer_call(keeper, Reader(call))
            self.assertEqual(answer, model.call(call), (seed, call))
            self.compare(keeper, model, (seed, len(calls)))
            given.append(answer)
            if len(calls) == count:
                break
            calls.append(random_call(dice, model))
        self.assertEqual(run(calls), given, seed)
        return given

    def test_small_rings(self):
        refused = set()
        for seed in range(300):
            given = self.drive(seed, 4 + seed % 4, 128 + seed % 3, 180)
            refused |= {row[0] for row in given if row[0] < 0}
        self.assertEqual(refused, {-1, -2, -4, -5})

    def test_larger_rings(self):
        for seed in range(6):
            self.drive(1000 + seed, (64, 16, 9)[seed % 3], (128, 300, 1000)[seed % 3], 225)


if __name__ == "__main__":
    unittest.main()
