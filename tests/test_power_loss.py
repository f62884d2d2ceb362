"""Whatever act is torn, and however: each record that was there is there, the one under way whole or not at all."""

import random
import unittest

from ringstore.keeper import Keeper
from tests.handmade import kept_records


def copy_of(keeper):
    """A keeper with the same bytes and its ring opened alike."""
    other = Keeper()
    other.sectors = [list(row) for row in keeper.sectors]
    other.open_ring(sorted(keeper.ring.dead))
    return other


def masks(size, dice):
    """All 0, all 255, half of each, single bits, and some others."""
    yield [0] * size
    yield [255] * size
    yield [0] * (size // 2) + [255] * (size - size // 2)
    yield [255] * (size // 2) + [0] * (size - size // 2)
    yield [dice.randrange(256) for k in range(size)]
    yield [1 << dice.randrange(8) if k == size // 3 else 0 for k in range(size)]
    yield [dice.choice((0, 255)) for k in range(size)]


class PowerLossTest(unittest.TestCase):
    def check_behind_cut(self, keeper, before, number, record, lost):
        """What's there behind a cut: nothing but what was to go is lost, and the new record is whole or not there."""
        answer = keeper.open_ring(sorted(lost))
        self.assertEqual(answer[0], 0)
        found = kept_records(keeper)
        self.assertEqual(sorted(found), list(range(answer[1], answer[2])))
        self.check_reads(keeper, found, answer)
        for known in found:
            self.assertEqual(found[known], before[known] if known < number else record)
        self.assertIn(answer[2], (number, number + 1))
        return answer

    def check_reads(self, keeper, found, answer):
        """Each record that's there is read, and none beyond."""
        for known in range(answer[1], answer[2]):
            kind, body = found[known]
            self.assertEqual(keeper.read_record(known), [kind] + body)
        for beyond in (answer[1] - 1, answer[2]):
            self.assertEqual(keeper.read_record(beyond), [-2])

    def tear_everywhere(self, keeper, kind, body, dice):
        """Each act of this record torn by each mask, from the same beginning; then two records more."""
        dead = dict(keeper.ring.dead)
        before = kept_records(keeper)
        whole = copy_of(keeper)
        first = whole.first_number()
        answer = whole.append_record(kind, body)
        if answer == [-5]:
            return 0
        sizes = [act.size() for act in whole.acts_under_way()]
        whole.settle()
        to_stay = whole.first_number()
        for i, size in enumerate(sizes):
            for mask in masks(size, dice):
                torn = copy_of(keeper)
                self.assertEqual(torn.append_record(kind, body), answer)
                self.assertEqual(torn.cut(i, mask), [0])
                again = self.check_behind_cut(torn, before, answer[0], (kind, body), dead)
                self.assertTrue(first <= again[1] <= to_stay)
                if torn.append_record(3, [1, 2, 3]) != [-5]:
                    torn.settle()
                    self.assertEqual(kept_records(torn)[again[2]], (3, [1, 2, 3]))
        return len(sizes)

    def test_every_act_of_a_ring_going_round(self):
        dice = random.Random(1)
        keeper = Keeper()
        keeper.make(4, 128)
        seen = set()
        for k in range(14):
            kind, body = 1 + k, [(k * 31 + p) % 256 for p in range((52, 20, 7, 0)[k % 4])]
            seen.add(self.tear_everywhere(keeper, kind, body, dice))
            keeper.append_record(kind, body)
            keeper.settle()
        self.assertEqual(seen, {2, 4})

    def full_keeper(self):
        """Sector 4 the newest, 1 to 4 there, 0 clean."""
        keeper = Keeper()
        keeper.make(5, 128)
        for k in range(5):
            keeper.append_record(1 + k, [k] * 52)
            keeper.settle()
        return keeper

    def tear_on_and_on(self, keeper, dice):
        """Four records more, torn everywhere; how many acts there were."""
        seen = set()
        for k in range(4):
            seen.add(self.tear_everywhere(keeper, 9, [k] * 52, dice))
            keeper.append_record(9, [k] * 52)
            keeper.settle()
        return seen

    def test_every_act_with_sectors_dead(self):
        dice = random.Random(2)
        seen = set()
        for dead in ([0], [1], [3], [0, 1], [0, 2], [2, 3], [4], [0, 1, 2], [3, 4], [0, 4]):
            keeper = self.full_keeper()
            keeper.open_ring(dead)
            seen |= self.tear_on_and_on(keeper, dice)
        self.assertEqual(seen, {0, 4, 7})

    def test_every_act_behind_a_torn_erase(self):
        dice = random.Random(3)
        for mask in ([0] * 128, [255] * 64 + [0] * 64, [0] * 64 + [255] * 64, [1] * 128):
            keeper = self.full_keeper()
            keeper.open_ring([0])
            self.assertEqual(keeper.append_record(9, []), [6, 7])
            keeper.cut(2, mask)
            keeper.open_ring([0])
            self.assertEqual(self.tear_on_and_on(keeper, dice), {4, 5})

    def test_torn_again_and_again(self):
        for seed in range(40):
            dice = random.Random(seed)
            keeper = Keeper()
            keeper.make(4 + seed % 3, 128 + seed % 5)
            written = {}
            for k in range(40):
                kind, body = dice.randrange(1, 256), [dice.randrange(256) for p in range(dice.randrange(53))]
                answer = keeper.append_record(kind, body)
                if answer == [-5]:
                    keeper.open_ring([])
                    continue
                i = dice.randrange(answer[1])
                mask = dice.choice(list(masks(keeper.acts_under_way()[i].size(), dice)))
                if dice.randrange(3) == 0:
                    keeper.settle()
                    written[answer[0]] = (kind, body)
                    continue
                keeper.cut(i, mask)
                opened = keeper.open_ring([dice.randrange(4)] if dice.randrange(4) == 0 else [])
                if opened[2] == answer[0] + 1:
                    written[answer[0]] = (kind, body)
                self.assertEqual(kept_records(keeper), {x: written[x] for x in range(opened[1], opened[2])})


if __name__ == "__main__":
    unittest.main()
