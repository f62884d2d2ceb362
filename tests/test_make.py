"""Promise 1: make."""

import unittest

from ringstore.keeper import Keeper
from tests.handmade import head, sector
from tests.lines import TOP, append, appended, cut, full_sectors, last, make, opening, run, settle


class MakeTest(unittest.TestCase):
    def test_sizes_at_the_edges(self):
        for n in (4, 5, 63, 64):
            for m in (128, 129, 4095, 4096):
                self.assertEqual(run([make(n, m)]), [[0]], (n, m))

    def test_sizes_beyond_the_edges_are_refused(self):
        for n, m in ((3, 128), (65, 128), (4, 127), (4, 4097), (0, 0), (0, 128), (4, 0),
                     (TOP, 128), (4, TOP), (128, 4), (3, 127), (65, 4097)):
            self.assertEqual(last([make(4, 128), make(n, m)]), [-1], (n, m))

    def test_bytes_of_a_new_store(self):
        for n, m in ((4, 128), (64, 4096), (7, 200)):
            keeper = Keeper()
            keeper.make(n, m)
            wanted = [sector(m, head(1, 1, 1))] + [sector(m)] * (n - 1)
            self.assertEqual(keeper.sectors, wanted)

    def test_sectors_do_not_share_their_bytes(self):
        keeper = Keeper()
        keeper.make(4, 128)
        keeper.sectors[1][0] = 0
        self.assertEqual(keeper.sectors[2][0], 255)

    def test_what_a_new_ring_knows(self):
        keeper = Keeper()
        keeper.make(4, 128)
        ring = keeper.ring
        self.assertEqual((ring.ages, ring.newest, ring.place, ring.next_number), ({0: 1}, 0, 48, 1))
        self.assertEqual((ring.dead, ring.spare(), ring.clean), ({}, 1, True))

    def test_it_is_open_with_number_one_next(self):
        self.assertEqual(last([make(4, 128), append(1, [])]), [1, 2])
        self.assertEqual(last([make(4, 128), opening()]), [0, 1, 1])

    def test_the_spare_one_is_clean(self):
        self.assertEqual(last([make(4, 128)] + full_sectors(1) + [append(1, [0] * 52)]), [2, 4])

    def test_again_begins_anew(self):
        self.assertEqual(last([make(4, 128)] + full_sectors(5) + [make(5, 130), opening()]), [0, 1, 1])
        self.assertEqual(last([make(4, 128), make(5, 130), append(1, [0] * 54)]), [1, 2])
        self.assertEqual(last([make(5, 130), make(4, 128), append(1, [0] * 53)]), [-1])

    def test_again_drops_what_is_under_way(self):
        self.assertEqual(run([make(4, 128), append(1, []), make(4, 128), settle(), append(1, [])])[2:],
                         [[0], [0], [1, 2]])

    def test_again_opens_what_was_cut(self):
        self.assertEqual(last([make(4, 128), append(1, []), cut(0, [0] * 3), make(4, 128), append(1, [])]), [1, 2])

    def test_again_has_no_dead_sectors(self):
        dead = [make(4, 128), opening([0, 1, 2, 3]), append(1, [])]
        self.assertEqual(last(dead), [-5])
        self.assertEqual(last(dead + [make(4, 128), append(1, [])]), [1, 2])

    def test_a_refusal_changes_nothing(self):
        begun = [make(4, 128)] + appended(1, [9]) + [append(2, [8])]
        self.assertEqual(run(begun + [make(3, 128), settle(), opening()])[-3:], [[-1], [2], [0, 1, 3]])
        self.assertEqual(last([make(4, 128), opening([0, 1, 2, 3]), make(4, 127), append(1, [])]), [-5])
        self.assertEqual(last([make(4, 128), append(1, []), cut(0, [0] * 3), make(65, 128), append(1, [])]), [-4])


if __name__ == "__main__":
    unittest.main()
