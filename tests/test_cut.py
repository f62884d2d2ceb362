"""Promise 5: cut, and what an opening finds behind it."""

import unittest

from ringstore.acts import Erase, Program
from tests.handmade import head, keeper_of, record, sector
from tests.lines import TOP, append, appended, cut, full_sectors, last, make, opening, run, settle


class CutCallTest(unittest.TestCase):
    def test_no_such_act(self):
        self.assertEqual(last([make(4, 128), cut(0, [])]), [-1])
        self.assertEqual(last([make(4, 128), cut(0, [0])]), [-1])
        begun = [make(4, 128), append(1, [])]
        for i in (2, 3, TOP):
            self.assertEqual(last(begun + [cut(i, [0])]), [-1])
        self.assertEqual(last(begun + [cut(0, [0] * 3)]), [0])
        self.assertEqual(last(begun + [cut(1, [0])]), [0])

    def test_masks_that_are_not_bytes(self):
        begun = [make(4, 128), append(1, [])]
        for mask in ([256, 0, 0], [0, 0, 256], [TOP] * 3):
            self.assertEqual(last(begun + [cut(0, mask)]), [-1])
        self.assertEqual(last(begun + [cut(0, [0, 255, 0])]), [0])

    def test_masks_of_another_length(self):
        begun = [make(4, 128)] + full_sectors(1) + [append(1, [0] * 52)]
        for i, size in ((0, 48), (1, 128), (2, 55), (3, 1)):
            for wrong in (0, size - 1, size + 1, 5000):
                self.assertEqual(last(begun + [cut(i, [0] * wrong)]), [-1], (i, wrong))
            self.assertEqual(last(begun + [cut(i, [0] * size)]), [0], i)

    def test_an_erase_has_m_bytes(self):
        begun = [make(4, 4096)] + full_sectors(1, 4096) + [append(1, [])]
        self.assertEqual(last([make(4, 4096)] + full_sectors(1, 4096) + [append(1, []), settle()]), [4])
        self.assertEqual(last(begun + [cut(1, [0] * 4095)]), [-1])
        self.assertEqual(last(begun + [cut(1, [0] * 4097)]), [-1])
        self.assertEqual(last(begun + [cut(1, [0] * 4096)]), [0])

    def test_a_refusal_changes_nothing(self):
        begun = [make(4, 128), append(1, [])]
        for wrong in (cut(2, [0]), cut(0, [0]), cut(0, [256, 0, 0]), cut(TOP, [TOP])):
            self.assertEqual(run(begun + [wrong, append(1, []), settle(), append(1, [])])[2:],
                             [[-1], [-4], [2], [2, 2]])
        self.assertEqual(run([make(4, 128), cut(0, []), append(1, [])])[1:], [[-1], [1, 2]])

    def test_it_is_not_open_and_nothing_is_under_way(self):
        torn = [make(4, 128), append(1, []), cut(1, [255])]
        self.assertEqual(run(torn + [cut(0, [0] * 3), settle(), append(1, []), opening()])[-4:],
                         [[-1], [0], [-4], [0, 1, 1]])

    def test_those_behind_it_are_not_done(self):
        keeper = keeper_of([sector(128, head(1, 1, 1))] + [sector(128)] * 3)
        keeper.open_ring([])
        keeper.append_record(7, [1, 2])
        self.assertEqual(keeper.cut(0, [0, 0, 0, 0, 0]), [0])
        self.assertEqual(keeper.sectors[0], sector(128, head(1, 1, 1), [255] + record(7, [1, 2])[1:]))

    def test_those_before_it_are_done(self):
        keeper = keeper_of([sector(128, head(1, 1, 1))] + [sector(128)] * 3)
        keeper.open_ring([])
        keeper.append_record(7, [1, 2])
        self.assertEqual(keeper.cut(1, [6]), [0])
        self.assertEqual(keeper.sectors[0], sector(128, head(1, 1, 1), [6] + record(7, [1, 2])[1:]))


class TornTest(unittest.TestCase):
    def test_a_program_only_lets_bits_fall(self):
        rows = [[255, 0, 240, 15, 170]]
        Program(0, 1, [255, 60, 60, 15]).carry_out(rows)
        self.assertEqual(rows, [[255, 0, 48, 12, 10]])

    def test_a_torn_program_keeps_the_bits_of_the_mask(self):
        rows = [[255, 255, 255, 240, 0]]
        Program(0, 1, [0, 170, 0, 0]).tear(rows, [129, 15, 255, 255])
        self.assertEqual(rows, [[255, 129, 175, 240, 0]])

    def test_an_erase_lets_all_bits_rise(self):
        rows = [[1, 2], [0, 255]]
        Erase(1, 2).carry_out(rows)
        self.assertEqual(rows, [[1, 2], [255, 255]])

    def test_a_torn_erase_lets_the_bits_of_the_mask_rise_alone(self):
        rows = [[0, 0, 0, 8, 255]]
        Erase(0, 5).tear(rows, [0, 255, 129, 1, 0])
        self.assertEqual(rows, [[0, 255, 129, 9, 255]])

    def test_every_bit(self):
        for old in (0, 1):
            for fresh in (0, 1):
                for kept in (0, 1):
                    rows = [[old]]
                    Program(0, 0, [fresh]).tear(rows, [kept])
                    self.assertEqual(rows, [[1 if old and (fresh or kept) else 0]])


class CutAtEachActTest(unittest.TestCase):
    """Seven acts: note, its first byte, erase of k, k's head, erase of j, record, its first byte."""

    body = [85] * 52
    sizes = [11, 1, 128, 48, 128, 55, 1]

    def behind(self, i, mask, dead=(0,)):
        """What open and then two appends answer behind a cut at act i; the mask may be one byte for all."""
        if isinstance(mask, int):
            mask = [mask] * self.sizes[i]
        begun = [make(4, 128)] + full_sectors(4) + [opening([0]), append(9, self.body)]
        calls = begun + [cut(i, mask), opening(dead), append(9, self.body), settle(), append(9, self.body)]
        answered = run(calls)
        self.assertEqual(answered[len(begun) - 2:len(begun) + 1], [[0, 2, 5], [5, 7], [0]])
        return answered[-4], answered[-3], answered[-1]

    def test_note_not_begun(self):
        self.assertEqual(self.behind(0, 255), ([0, 2, 5], [5, 7], [6, 4]))

    def test_note_without_its_first_byte(self):
        for i, mask in ((0, 0), (0, 254), (0, [0] * 10 + [255]), (1, 255)):
            self.assertEqual(self.behind(i, mask), ([0, 2, 5], [-5], [-5]))
            self.assertEqual(self.behind(i, mask, ()), ([0, 2, 5], [5, 4], [6, 4]))

    def test_note_there(self):
        for i, mask in ((1, 0), (1, 254), (1, 127), (2, 0), (2, 1), (2, [0] * 127 + [255])):
            self.assertEqual(self.behind(i, mask), ([0, 3, 5], [5, 5], [6, 4]))

    def test_the_spare_one_erased(self):
        self.assertEqual(self.behind(2, 255), ([0, 3, 5], [5, 4], [6, 4]))
        self.assertEqual(self.behind(3, 255), ([0, 3, 5], [5, 4], [6, 4]))

    def test_head_torn(self):
        # Each mask keeps a bit that should have fallen: k's head has the age 5, 250 in the second half.
        for mask in (1, 2, 254, [255] + [0] * 47, [2] + [0] * 47, [0] * 24 + [4] + [0] * 23,
                     [0] * 24 + [255] * 24, [255] * 24 + [0] * 24):
            self.assertEqual(self.behind(3, mask), ([0, 3, 5], [5, 5], [6, 4]))

    def test_head_torn_by_a_mask_that_changes_nothing(self):
        for mask in ([5] + [0] * 47, [0] * 47 + [255], [0] * 24 + [250] + [0] * 23):
            self.assertEqual(self.behind(3, mask), ([0, 4, 5], [5, 2], [6, 5]))

    def test_head_there(self):
        self.assertEqual(self.behind(3, 0), ([0, 4, 5], [5, 2], [6, 5]))

    def test_the_one_behind_not_wholly_erased(self):
        for mask in (0, 1, 254, [255] * 48 + [0] * 80, [255] * 127 + [127]):
            self.assertEqual(self.behind(4, mask)[:2], ([0, 4, 5], [5, 2]))
        self.assertEqual(self.behind(4, 0), ([0, 4, 5], [5, 2], [6, 5]))

    def test_the_one_behind_erased(self):
        self.assertEqual(self.behind(4, 255), ([0, 4, 5], [5, 2], [6, 4]))
        self.assertEqual(self.behind(5, 255), ([0, 4, 5], [5, 2], [6, 4]))

    def test_record_without_its_first_byte(self):
        for i, mask in ((5, 0), (5, 85), (5, [0] + [255] * 54), (6, 255)):
            self.assertEqual(self.behind(i, mask), ([0, 4, 5], [5, 4], [6, 4]))

    def test_record_there(self):
        for mask in (0, 1, 127, 128, 254):
            self.assertEqual(self.behind(6, mask)[:2], ([0, 4, 6], [6, 4]))


if __name__ == "__main__":
    unittest.main()
