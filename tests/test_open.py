"""Promise 2: open."""

import unittest

from tests.handmade import head, keeper_of, note, record, sector
from tests.lines import TOP, append, appended, cut, full_sectors, last, make, opening, run, settle


def known(keeper):
    ring = keeper.ring
    return ring.ages, ring.newest, ring.place, ring.next_number, ring.clean


class OpenCallTest(unittest.TestCase):
    def test_ordinary(self):
        self.assertEqual(run([make(4, 128), opening()] + appended(1, [5]) + [opening()]),
                         [[0], [0, 1, 1], [1, 2], [2], [0, 1, 2]])

    def test_first_number_goes_on_as_the_oldest_go(self):
        for count, first in ((1, 1), (2, 1), (3, 1), (4, 2), (5, 3), (9, 7), (13, 11)):
            self.assertEqual(last([make(4, 128)] + full_sectors(count) + [opening()]), [0, first, count + 1])

    def test_several_records_in_a_sector(self):
        calls = [make(4, 128)]
        for k in range(5):
            calls += appended(3, [k, k])
        self.assertEqual(last(calls + [opening()]), [0, 1, 6])

    def test_sectors_that_are_not_there_or_twice(self):
        for dead in ([4], [TOP], [0, 1, 4], [1, 1], [3, 2, 3], [0, 0, 0, 0, 0], [0, 1, 2, 3, 4]):
            self.assertEqual(last([make(4, 128), opening(dead)]), [-1], dead)
        self.assertEqual(last([make(64, 128), opening([63])]), [0, 1, 1])
        self.assertEqual(last([make(64, 128), opening([64])]), [-1])
        self.assertEqual(last([make(4, 128), opening([0] * 5000)]), [-1])

    def test_all_may_be_dead(self):
        self.assertEqual(last([make(4, 128), opening([3, 1, 0, 2])]), [0, 1, 1])

    def test_something_under_way(self):
        begun = [make(4, 128), append(1, [])]
        self.assertEqual(run(begun + [opening(), opening([1]), settle(), opening()])[-4:], [[-4], [-4], [2], [0, 1, 2]])

    def test_wrong_sectors_are_told_before_what_is_under_way(self):
        self.assertEqual(last([make(4, 128), append(1, []), opening([4])]), [-1])
        self.assertEqual(last([make(4, 128), append(1, []), opening([2, 2])]), [-1])

    def test_no_head(self):
        keeper = keeper_of([sector(128)] * 4)
        self.assertEqual(keeper.open_ring([]), [-2])
        self.assertIsNone(keeper.ring)
        self.assertEqual(keeper.open_ring([4]), [-1])
        self.assertEqual(keeper.append_record(1, []), [-4])

    def test_no_head_leaves_an_open_ring_as_it_is(self):
        keeper = keeper_of([sector(128, head(1, 1, 1))] + [sector(128)] * 3)
        keeper.open_ring([2])
        ring = keeper.ring
        keeper.sectors[0] = sector(128)
        self.assertEqual(keeper.open_ring([]), [-2])
        self.assertIs(keeper.ring, ring)
        self.assertEqual(ring.dead, {2: True})

    def test_under_way_is_told_before_no_head(self):
        keeper = keeper_of([sector(128, head(1, 1, 1))] + [sector(128)] * 3)
        keeper.open_ring([])
        keeper.append_record(1, [])
        keeper.sectors[0] = sector(128)
        self.assertEqual(keeper.open_ring([]), [-4])

    def test_a_refusal_changes_nothing(self):
        dead = [make(4, 128), opening([0, 1, 2, 3])]
        for wrong in ([4], [1, 1]):
            self.assertEqual(last(dead + [opening(wrong), append(1, [])]), [-5])
        closed = [make(4, 128), append(1, []), cut(0, [0] * 3)]
        self.assertEqual(run(closed + [opening([4]), append(1, []), opening(), append(1, [])])[-4:],
                         [[-1], [-4], [0, 1, 1], [1, 4]])

    def test_each_opening_has_its_own_dead_sectors(self):
        begun = [make(4, 128), opening([0]), append(1, []), settle()]
        self.assertEqual(run(begun)[1:], [[0, 1, 1], [1, 4], [4]])
        # The newest is sector 1 now.
        for dead, answer in (([], [2, 2]), ([0, 2, 3], [2, 2]), ([1], [2, 4]), ([1, 2, 3], [-5])):
            self.assertEqual(run(begun + [opening(dead), append(1, [])])[-2:], [[0, 1, 2], answer], dead)


class OpenedTest(unittest.TestCase):
    def test_the_greatest_age_is_the_newest(self):
        keeper = keeper_of([sector(128, head(3, 2, 30)), sector(128, head(4, 2, 40)), sector(128),
                            sector(128, head(2, 2, 20))])
        self.assertEqual(keeper.open_ring([]), [0, 20, 40])
        self.assertEqual(known(keeper), ({0: 3, 1: 4, 3: 2}, 1, 48, 40, True))

    def test_of_two_alike_the_first(self):
        rows = [sector(128), sector(128, head(5, 5, 50)), sector(128, head(5, 5, 60)), sector(128, head(4, 1, 1))]
        keeper = keeper_of(rows)
        self.assertEqual(keeper.open_ring([])[2], 50)
        self.assertEqual(known(keeper), ({1: 5, 2: 5}, 1, 48, 50, False))

    def test_ages_are_eight_bytes_the_lowest_first(self):
        rows = [sector(128, head(255, 255, 7)), sector(128, head(256, 255, TOP - 1)), sector(128), sector(128)]
        self.assertEqual(keeper_of(rows).open_ring([]), [0, 7, TOP - 1])
        rows[2] = sector(128, head(2 ** 63, 2 ** 63 - 1, 9))
        self.assertEqual(keeper_of(rows).open_ring([]), [0, 9, 9])
        for bit in range(64):
            rows = [sector(128, head(2 ** bit - 1, 0, 5)), sector(128, head(2 ** bit, 2 ** bit, 2 ** bit))]
            self.assertEqual(keeper_of(rows + [sector(128)] * 2).open_ring([]), [0, 2 ** bit, 2 ** bit])

    def test_a_head_whose_halves_do_not_fit_is_none(self):
        for place in range(48):
            for bit in (1, 128):
                row = sector(128, head(9, 9, 9))
                row[place] ^= bit
                keeper = keeper_of([sector(128, head(1, 1, 1)), row, sector(128), sector(128)])
                self.assertEqual(keeper.open_ring([]), [0, 1, 1], place)
                self.assertEqual(known(keeper), ({0: 1}, 0, 48, 1, False))

    def test_halves_that_are_alike_do_not_fit(self):
        row = sector(128, [0] * 48)
        self.assertEqual(keeper_of([row] * 4).open_ring([]), [-2])

    def test_least_age_of_the_head(self):
        rows = [sector(128, head(1, 1, 10)), sector(128, head(2, 1, 20)), sector(128, head(3, 2, 30)), sector(128)]
        keeper = keeper_of(rows)
        self.assertEqual(keeper.open_ring([]), [0, 20, 30])
        self.assertEqual(keeper.ring.ages, {1: 2, 2: 3})

    def test_a_note_that_says_more_than_the_head(self):
        older = [sector(128, head(1, 1, 10)), sector(128, head(2, 1, 20))]
        for ages, first in (((1,), 10), ((2,), 20), ((3,), 30), ((3, 2), 30), ((2, 3), 30), ((0,), 10)):
            newest = sector(128, head(3, 1, 30), *[note(age) for age in ages])
            keeper = keeper_of(older + [newest, sector(128)])
            self.assertEqual(keeper.open_ring([]), [0, first, 30], ages)

    def test_a_note_counts_in_the_newest_sector_alone(self):
        rows = [sector(128, head(1, 1, 10)), sector(128, head(2, 1, 20), note(2)), sector(128, head(3, 1, 30)),
                sector(128)]
        self.assertEqual(keeper_of(rows).open_ring([]), [0, 10, 30])

    def test_notes_have_no_number(self):
        row = sector(256, head(3, 1, 30), record(1, [1]), note(1), record(255, []), note(2))
        keeper = keeper_of([row] + [sector(256)] * 3)
        self.assertEqual(keeper.open_ring([]), [0, 30, 32])
        self.assertEqual(keeper.ring.place, 48 + 5 + 12 + 4 + 12)

    def test_a_body_is_not_read_as_a_note(self):
        row = sector(128, head(3, 1, 30), record(1, [3, 0, 0, 0, 0, 0, 0, 0]))
        rows = [sector(128, head(2, 1, 20)), row, sector(128), sector(128)]
        self.assertEqual(keeper_of(rows).open_ring([]), [0, 20, 31])

    def test_long_bodies(self):
        row = sector(4096, head(1, 1, 1), record(1, [7] * 256), record(2, [255] * 1000), record(3, [0] * 511))
        keeper = keeper_of([row] + [sector(4096)] * 3)
        self.assertEqual(keeper.open_ring([]), [0, 1, 4])
        self.assertEqual(keeper.ring.place, 48 + 260 + 1004 + 515)

    def test_a_first_byte_that_is_not_255_is_a_record(self):
        for byte in (0, 1, 127, 128, 254):
            row = sector(128, head(1, 1, 1), [byte] + record(5, [6])[1:])
            keeper = keeper_of([row] + [sector(128)] * 3)
            self.assertEqual(keeper.open_ring([]), [0, 1, 2], byte)
            self.assertEqual(keeper.ring.place, 53)

    def test_bytes_behind_the_last_record(self):
        for place in (53, 54, 100, 127):
            row = sector(128, head(1, 1, 1), record(5, [6]))
            if place > 53:
                row[place] = 254
            keeper = keeper_of([row] + [sector(128)] * 3)
            self.assertEqual(keeper.open_ring([]), [0, 1, 2])
            self.assertEqual(keeper.ring.place, 53 if place == 53 else 128)

    def test_records_up_to_the_sectors_end(self):
        row = sector(128, head(1, 1, 1), record(5, [6] * 64), note(1))
        self.assertEqual(len(row), 128)
        keeper = keeper_of([row] + [sector(128)] * 3)
        self.assertEqual(keeper.open_ring([]), [0, 1, 2])
        self.assertEqual(keeper.ring.place, 128)

    def test_dead_sectors_are_there_and_may_be_the_newest(self):
        rows = [sector(128, head(1, 1, 10)), sector(128, head(2, 1, 20)), sector(128), sector(128)]
        keeper = keeper_of(rows)
        self.assertEqual(keeper.open_ring([0, 1]), [0, 10, 20])
        self.assertEqual(known(keeper), ({0: 1, 1: 2}, 1, 48, 20, True))

    def test_the_spare_one_is_the_next_that_is_not_dead(self):
        rows = [sector(128, head(2, 1, 20)), sector(128), sector(128, [255] * 127 + [254]), sector(128, head(1, 1, 10))]
        for dead, spare, clean in (([], 1, True), ([1], 2, False), ([1, 2], 3, False), ([2], 1, True),
                                   ([1, 2, 3], 0, False), ([0, 1, 2, 3], 0, False), ([0, 1, 2], 3, False)):
            keeper = keeper_of(rows)
            keeper.open_ring(dead)
            self.assertEqual((keeper.ring.spare(), keeper.ring.clean), (spare, clean), dead)

    def test_the_spare_one_is_looked_for_round(self):
        rows = [sector(128), sector(128), sector(128), sector(128, head(1, 1, 1))]
        keeper = keeper_of(rows)
        keeper.open_ring([])
        self.assertEqual(keeper.ring.spare(), 0)
        self.assertEqual([keeper.ring.behind(k) for k in range(4)], [1, 2, 3, 0])


if __name__ == "__main__":
    unittest.main()
