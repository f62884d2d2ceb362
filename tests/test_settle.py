"""Promise 4: settle."""

import unittest

from ringstore.keeper import Keeper
from tests.handmade import head, keeper_of, kept_records, note, record, sector
from tests.lines import append, appended, cut, full_sectors, last, make, opening, run, settle


class SettleTest(unittest.TestCase):
    def test_how_many(self):
        self.assertEqual(run([make(4, 128), settle(), append(1, [2]), settle(), settle()]), [[0], [0], [1, 2], [2], [0]])

    def test_as_many_as_append_said(self):
        answered = run([make(4, 128)] + full_sectors(9))
        for said, done in zip(answered[1::2], answered[2::2]):
            self.assertEqual(said[1], done[0])

    def test_none_while_it_is_not_open(self):
        self.assertEqual(run([make(4, 128), append(1, []), cut(1, [0]), settle(), append(1, [])])[-2:], [[0], [-4]])

    def test_bytes_of_a_record(self):
        keeper = Keeper()
        keeper.make(4, 128)
        keeper.append_record(7, [1, 255, 0])
        keeper.settle()
        keeper.append_record(8, [])
        keeper.settle()
        rows = [sector(128, head(1, 1, 1), record(7, [1, 255, 0]), record(8, []))] + [sector(128)] * 3
        self.assertEqual(keeper.sectors, rows)
        ring = keeper.ring
        self.assertEqual((ring.place, ring.next_number, ring.newest, ring.clean), (59, 3, 0, True))

    def test_bytes_of_a_new_sector(self):
        keeper = Keeper()
        keeper.make(4, 128)
        for k in range(4):
            keeper.append_record(k + 1, [k] * 52)
            keeper.settle()
        rows = [sector(128)]
        for k in (1, 2, 3):
            rows.append(sector(128, head(k + 1, max(1, k - 1), k + 1), record(k + 1, [k] * 52)))
        self.assertEqual(keeper.sectors, rows)
        ring = keeper.ring
        self.assertEqual((ring.ages, ring.newest, ring.place), ({1: 2, 2: 3, 3: 4}, 3, 104))
        self.assertEqual((ring.next_number, ring.spare(), ring.clean), (5, 0, True))

    def test_bytes_behind_a_note(self):
        full = record(1, [5] * 52)
        keeper = keeper_of([sector(128, head(6, 3, 40), full), sector(128, head(3, 3, 10)),
                            sector(128, head(4, 3, 20)), sector(128, head(5, 3, 30))])
        keeper.open_ring([])
        self.assertEqual(keeper.append_record(9, [9]), [41, 7])
        self.assertEqual(keeper.settle(), [7])
        self.assertEqual(keeper.sectors, [sector(128, head(6, 3, 40), full, note(4)),
                                          sector(128, head(7, 5, 41), record(9, [9])),
                                          sector(128), sector(128, head(5, 3, 30))])
        self.assertEqual(keeper.ring.ages, {0: 6, 1: 7, 3: 5})
        self.assertEqual(keeper.open_ring([]), [0, 30, 42])

    def test_two_sectors_left_keep_the_newest_alone(self):
        calls = [make(4, 128)] + full_sectors(3) + [opening([0, 3]), append(1, [0] * 52), settle(), opening()]
        self.assertEqual(run(calls)[-4:], [[0, 1, 4], [4, 7], [7], [0, 4, 5]])

    def test_the_spare_one_is_clean_each_time(self):
        answered = run([make(5, 128)] + full_sectors(20))
        self.assertEqual([row[1] for row in answered[1::2]], [2] + [4] * 19)

    def test_a_dead_sector_taken_back(self):
        calls = [make(4, 128), opening([1])] + full_sectors(3) + [opening([])]
        self.assertEqual(last(calls), [0, 2, 4])
        # The newest is 3 and the spare one 0, which was erased; j is the revived sector 1.
        self.assertEqual(last(calls + [append(1, [0] * 52)]), [4, 4])
        self.assertEqual(last(calls + appended(1, [0] * 52) + [opening()]), [0, 2, 5])

    def test_every_record_that_is_there_is_whole(self):
        keeper = Keeper()
        keeper.make(6, 300)
        written = {}
        for k in range(1, 120):
            body = [(k * 7 + p) % 256 for p in range(k * 13 % 225)]
            self.assertEqual(keeper.append_record(1 + k % 255, body)[0], k)
            keeper.settle()
            written[k] = (1 + k % 255, body)
            first = keeper.first_number()
            self.assertEqual(kept_records(keeper), {x: written[x] for x in range(first, k + 1)})
        self.assertEqual(keeper.open_ring([]), [0, first, 120])

    def test_sectors_wear_alike(self):
        keeper = Keeper()
        keeper.make(5, 128)
        worn = [0] * 5
        for k in range(51):
            keeper.append_record(1, [0] * 52)
            for act in keeper.acts_under_way():
                if act.size() == 128:
                    worn[act.sector] += 1
            keeper.settle()
        self.assertEqual(worn, [10] * 5)


if __name__ == "__main__":
    unittest.main()
