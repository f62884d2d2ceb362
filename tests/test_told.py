"""Promise 8: told, sector and acts."""

import unittest

from tests.handmade import head, note, record, sector
from tests.lines import (TOP, acts, append, appended, cut, dead, full_sectors, last, make, opening, read, run,
                         sector_of, settle, told)


class ToldTest(unittest.TestCase):
    def test_a_new_store(self):
        for n, m in ((4, 128), (64, 4096), (7, 300)):
            self.assertEqual(last([make(n, m), told()]), [0, 1, 1, 1, 0, 1, 48, 1, 1, 0])

    def test_behind_records(self):
        begun = [make(4, 128)] + appended(1, [5, 6, 7])
        self.assertEqual(last(begun + [told()]), [0, 1, 2, 1, 0, 1, 55, 1, 1, 0])
        self.assertEqual(last(begun + appended(1, []) + [told()]), [0, 1, 3, 1, 0, 1, 59, 1, 1, 0])

    def test_sectors_going_round(self):
        wanted = {1: [0, 1, 2, 1, 0, 1, 104, 1, 1, 0], 2: [0, 1, 3, 2, 1, 2, 104, 2, 1, 0],
                  3: [0, 1, 4, 3, 2, 3, 104, 3, 1, 0], 4: [0, 2, 5, 3, 3, 4, 104, 0, 1, 0],
                  5: [0, 3, 6, 3, 0, 5, 104, 1, 1, 0], 9: [0, 7, 10, 3, 0, 9, 104, 1, 1, 0]}
        for count in wanted:
            self.assertEqual(last([make(4, 128)] + full_sectors(count) + [told()]), wanted[count], count)

    def test_while_acts_are_under_way_and_behind_them(self):
        begun = [make(4, 128)] + appended(1, [5]) + [append(2, [6, 7])]
        self.assertEqual(run(begun + [told(), settle(), told()])[-3:],
                         [[0, 1, 2, 1, 0, 1, 53, 1, 1, 2], [2], [0, 1, 3, 1, 0, 1, 59, 1, 1, 0]])

    def test_while_a_new_sector_is_under_way_and_behind_it(self):
        begun = [make(4, 128)] + full_sectors(3) + [append(2, [6, 7])]
        self.assertEqual(run(begun + [told(), settle(), told()])[-3:],
                         [[0, 1, 4, 3, 2, 3, 104, 3, 1, 4], [4], [0, 2, 5, 3, 3, 4, 54, 0, 1, 0]])

    def test_while_a_note_is_under_way_and_behind_it(self):
        begun = [make(4, 128)] + full_sectors(4) + [dead(0), append(2, [6, 7])]
        self.assertEqual(run(begun + [told(), settle(), told()])[-3:],
                         [[0, 2, 5, 3, 3, 4, 104, 1, 0, 7], [7], [0, 4, 6, 2, 1, 5, 54, 2, 1, 0]])

    def test_the_place_at_the_sectors_end(self):
        for m in (128, 4096):
            torn = [make(4, m)] + appended(1, [5]) + [append(2, [6, 7]), cut(0, [0] * 5), opening()]
            self.assertEqual(last(torn + [told()]), [0, 1, 2, 1, 0, 1, m, 1, 1, 0])
            self.assertEqual(run(torn + [append(2, [6, 7]), told(), settle(), told()])[-4:],
                             [[2, 4], [0, 1, 2, 1, 0, 1, m, 1, 1, 4], [4], [0, 1, 3, 2, 1, 2, 54, 2, 1, 0]])

    def test_the_place_behind_a_cut_that_let_no_bit_fall(self):
        torn = [make(4, 128)] + appended(1, [5]) + [append(2, [255, 7]), cut(0, [255] * 5), opening()]
        self.assertEqual(last(torn + [told()]), [0, 1, 2, 1, 0, 1, 53, 1, 1, 0])

    def test_the_place_behind_notes(self):
        # Each note is cut off behind its first byte, and then another sector is the spare one.
        calls = [make(6, 128)] + full_sectors(6) + [opening([0]), append(9, []), cut(1, [0]), opening([0])]
        self.assertEqual(last(calls + [told()]), [0, 3, 7, 4, 5, 6, 116, 1, 0, 0])
        calls += [dead(1), append(9, []), cut(1, [0]), opening([0, 1])]
        self.assertEqual(last(calls + [told()]), [0, 4, 7, 3, 5, 6, 128, 2, 0, 0])
        self.assertEqual(last(calls + [dead(2), append(9, [])]), [-5])
        self.assertEqual(last(calls + [append(9, [])]), [7, 5])

    def test_no_record_is_there(self):
        self.assertEqual(last([make(4, 128), dead(0), append(1, []), cut(3, [255]), opening([0]), told()]),
                         [0, 1, 1, 2, 1, 2, 128, 2, 1, 0])

    def test_the_spare_one_is_not_clean(self):
        begun = [make(4, 128)] + full_sectors(1) + [append(2, [6] * 52)]
        for mask, clean in (([254] * 48, 0), ([254] + [255] * 47, 0), ([255] * 23 + [0] + [255] * 24, 0),
                            ([255] * 48, 1), ([255] * 47 + [0], 1)):
            # The last byte of a head is 255 less 0 here: no bit of it falls.
            self.assertEqual(last(begun + [cut(0, mask), opening(), told()]), [0, 1, 2, 1, 0, 1, 104, 1, clean, 0], mask)
        self.assertEqual(last(begun + [cut(0, [0] * 48), opening(), told()]), [0, 1, 2, 2, 1, 2, 48, 2, 1, 0])

    def test_not_open(self):
        closed = [make(4, 128), append(1, []), cut(0, [255] * 3)]
        self.assertEqual(run(closed + [told(), opening(), told()])[-3:],
                         [[-4], [0, 1, 1], [0, 1, 1, 1, 0, 1, 48, 1, 1, 0]])
        self.assertEqual(run(closed + [opening([4]), told()])[-2:], [[-1], [-4]])

    def test_behind_a_make_again(self):
        self.assertEqual(last([make(4, 128)] + full_sectors(5) + [dead(0), append(1, []), make(4, 128), told()]),
                         [0, 1, 1, 1, 0, 1, 48, 1, 1, 0])

    def test_as_an_open_finds_it(self):
        for count in range(12):
            begun = [make(5, 130)] + full_sectors(count, 120)
            self.assertEqual(last(begun + [told()]), last(begun + [opening(), told()]))
            answered = run(begun + [told(), opening()])
            self.assertEqual(answered[-2][1:3], answered[-1][1:])


class SectorTest(unittest.TestCase):
    def test_each_of_a_new_store(self):
        for n, m in ((4, 128), (64, 4096), (5, 131)):
            self.assertEqual(last([make(n, m), sector_of(0)]), [m] + sector(m, head(1, 1, 1)))
            for k in (1, 2, n - 1):
                self.assertEqual(last([make(n, m), sector_of(k)]), [m] + [255] * m)

    def test_no_such_sector(self):
        for n in (4, 5, 64):
            for k in (n, n + 1, TOP):
                self.assertEqual(last([make(n, 128), sector_of(k)]), [-1], (n, k))
        self.assertEqual(run([make(64, 128), make(4, 128), sector_of(4), sector_of(63)])[2:], [[-1], [-1]])
        self.assertEqual(last([make(4, 128), make(64, 128), sector_of(63)]), [128] + [255] * 128)

    def test_behind_records(self):
        calls = [make(4, 128)] + full_sectors(4)
        rows = [sector(128)]
        for k in (1, 2, 3):
            rows.append(sector(128, head(k + 1, max(1, k - 1), k + 1), record(k + 1, [k] * 52)))
        self.assertEqual(run(calls + [sector_of(k) for k in range(5)])[-5:], [[128] + row for row in rows] + [[-1]])

    def test_nothing_of_what_is_under_way(self):
        calls = [make(4, 128)] + full_sectors(4)
        looks = [sector_of(k) for k in range(4)]
        self.assertEqual(run(calls + [append(1, [0] * 52)] + looks)[-4:], run(calls + looks)[-4:])

    def test_behind_a_torn_program(self):
        begun = [make(4, 128), append(170, [0, 15])]
        wanted = [255, 2 | 129, 129, 170 | 129, 129, 15 | 129]
        self.assertEqual(last(begun + [cut(0, [129] * 5), sector_of(0)]), [128] + sector(128, head(1, 1, 1), wanted))
        self.assertEqual(last(begun + [cut(1, [64]), sector_of(0)]),
                         [128] + sector(128, head(1, 1, 1), [64] + record(170, [0, 15])[1:]))

    def test_behind_a_torn_head(self):
        begun = [make(4, 128)] + full_sectors(1) + [append(1, [0] * 52)]
        mask = [k for k in range(48)]
        wanted = [byte | k for k, byte in enumerate(head(2, 1, 2))]
        self.assertEqual(last(begun + [cut(0, mask), sector_of(1)]), [128] + sector(128, wanted))
        self.assertEqual(last(begun + [cut(0, mask), opening(), sector_of(1)]), [128] + sector(128, wanted))

    def test_behind_a_torn_erase(self):
        begun = [make(4, 128)] + full_sectors(3) + [append(1, [0] * 52)]
        old = sector(128, head(1, 1, 1), record(1, [0] * 52))
        mask = [k * 3 % 256 for k in range(128)]
        torn = begun + [cut(1, mask)]
        self.assertEqual(last(torn + [sector_of(0)]), [128] + [byte | bits for byte, bits in zip(old, mask)])
        self.assertEqual(last(torn + [sector_of(3)]), [128] + sector(128, head(4, 2, 4)))
        # The place 104 of the mask and what's behind it are erased already: no bit is left to rise there.
        self.assertEqual(last(begun + [cut(1, [0] * 104 + [255] * 24), sector_of(0)]), [128] + old)

    def test_not_open(self):
        closed = [make(4, 128), append(1, []), cut(0, [255] * 3)]
        self.assertEqual(run(closed + [sector_of(0), sector_of(3), sector_of(4), told()])[-4:],
                         [[128] + sector(128, head(1, 1, 1)), [128] + [255] * 128, [-1], [-4]])

    def test_an_answer_stays_as_it_was(self):
        answered = run([make(4, 128), sector_of(0)] + appended(1, [5]) + [sector_of(0)])
        self.assertEqual(answered[1], [128] + sector(128, head(1, 1, 1)))
        self.assertEqual(answered[4], [128] + sector(128, head(1, 1, 1), record(1, [5])))


class ActsTest(unittest.TestCase):
    def test_none_under_way(self):
        begun = [make(4, 128), append(1, [])]
        self.assertEqual(last([make(4, 128), acts()]), [0])
        self.assertEqual(last(begun + [settle(), acts()]), [0])
        self.assertEqual(last(begun + [cut(0, [0] * 3), acts()]), [0])
        self.assertEqual(last(begun + [cut(0, [0] * 3), opening(), acts()]), [0])
        self.assertEqual(last(begun + [make(4, 128), acts()]), [0])
        self.assertEqual(last([make(4, 128), opening([0, 1, 2, 3]), append(1, []), acts()]), [0])

    def test_a_record(self):
        self.assertEqual(last([make(4, 128), append(7, [8, 9]), acts()]),
                         [2, 0, 0, 49, 5, 2, 0, 7, 8, 9, 0, 0, 48, 1, 0])
        self.assertEqual(last([make(4, 128)] + appended(7, [8, 9]) + [append(255, []), acts()]),
                         [2, 0, 0, 55, 3, 0, 0, 255, 0, 0, 54, 1, 0])

    def test_a_long_record(self):
        body = [k % 256 for k in range(4020)]
        self.assertEqual(last([make(4, 4096), append(7, body), acts()]),
                         [2, 0, 0, 49, 4023, 180, 15, 7] + body + [0, 0, 48, 1, 0])

    def test_a_new_sector(self):
        self.assertEqual(last([make(4, 128)] + full_sectors(1) + [append(7, [8] * 52), acts()]),
                         [4] + [0, 1, 0, 48] + head(2, 1, 2) + [1, 2] + [0, 1, 49, 55, 52, 0, 7] + [8] * 52
                         + [0, 1, 48, 1, 0])

    def test_a_note_and_two_erases(self):
        begun = [make(4, 128)] + full_sectors(4) + [dead(0), append(7, [8])]
        self.assertEqual(last(begun + [acts()]),
                         [7] + [0, 3, 105, 11] + note(3)[1:] + [0, 3, 104, 1, 0] + [1, 1]
                         + [0, 1, 0, 48] + head(5, 4, 5) + [1, 2] + [0, 1, 49, 4, 1, 0, 7, 8] + [0, 1, 48, 1, 0])

    def test_the_spare_one_not_clean(self):
        begun = [make(4, 128)] + full_sectors(1) + [append(7, [8] * 52), cut(0, [1] * 48), opening(), append(7, [8] * 52)]
        self.assertEqual(last(begun + [acts()])[:57], [5, 1, 1, 0, 1, 0, 48] + head(2, 1, 2) + [1, 2])

    def test_calls_that_are_refused_leave_them(self):
        begun = [make(4, 128)] + full_sectors(3) + [append(7, [8])]
        plain = last(begun + [acts()])
        wrong = [make(3, 128), opening(), opening([4]), append(1, []), append(0, []), cut(4, [0]), cut(0, [0]), dead(1),
                 dead(4), read(9), sector_of(4)]
        answered = run(begun + wrong + [acts()])
        self.assertEqual([row[0] for row in answered[len(begun):-1]], [-1, -4, -1, -4, -1, -1, -1, -4, -1, -2, -1])
        self.assertEqual(answered[-1], plain)

    def test_looking_leaves_them(self):
        begun = [make(4, 128)] + full_sectors(3) + [append(7, [8])]
        answered = run(begun + [acts(), told(), sector_of(3), read(1), acts(), settle(), acts(), read(4)])
        self.assertEqual(answered[-4], answered[-8])
        self.assertEqual(answered[-3:], [[4], [0], [7, 8]])


if __name__ == "__main__":
    unittest.main()
