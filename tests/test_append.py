"""Promise 3: append, and the acts that it puts under way."""

import unittest

from ringstore.keeper import Keeper
from tests.handmade import acts_of, head, keeper_of, note, record, sector
from tests.lines import TOP, append, appended, cut, full_sectors, last, make, opening, run, settle


def record_acts(where, place, row):
    return [(where, place + 1, row[1:]), (where, place, [0])]


class AppendCallTest(unittest.TestCase):
    def test_numbers_go_up_by_one(self):
        calls = [make(4, 128)]
        for k in range(20):
            calls += appended(1 + k, [k] * (k % 7))
        numbers = [row[0] for row in run(calls)[1::2]]
        self.assertEqual(numbers, list(range(1, 21)))

    def test_kinds(self):
        for kind in (1, 2, 254, 255):
            self.assertEqual(last([make(4, 128), append(kind, [])]), [1, 2])
        for kind in (0, 256, 257, TOP):
            self.assertEqual(last([make(4, 128), append(kind, [])]), [-1])

    def test_bodies_that_are_not_bytes(self):
        for body in ([256], [0, 256], [256, 0], [TOP], [1, 2, 3, 300, 4]):
            self.assertEqual(last([make(4, 128), append(1, body)]), [-1], body)
        self.assertEqual(last([make(4, 128), append(1, [0, 255])]), [1, 2])

    def test_the_longest_body(self):
        for m in (128, 129, 1000, 4096):
            self.assertEqual(last([make(4, m), append(1, [7] * (m - 76))]), [1, 2])
            self.assertEqual(last([make(4, m), append(1, [7] * (m - 75))]), [-1])
        self.assertEqual(last([make(4, 4096), append(1, [7] * 5000)]), [-1])

    def test_just_fitting_into_the_newest(self):
        for m in (128, 200, 4096):
            begun = [make(4, m)] + appended(1, [0] * 20)
            # The place is 72 now; 72, 4 and 24 leave m - 100 for the body.
            self.assertEqual(last(begun + [append(1, [0] * (m - 100))]), [2, 2])
            self.assertEqual(last(begun + [append(1, [0] * (m - 99))]), [2, 4])

    def test_under_way_already(self):
        begun = [make(4, 128), append(1, [1])]
        self.assertEqual(run(begun + [append(1, [2]), settle(), append(1, [2])])[-3:], [[-4], [2], [2, 2]])

    def test_not_open(self):
        closed = [make(4, 128), append(1, [1]), cut(0, [255] * 4)]
        self.assertEqual(run(closed + [append(1, [1]), opening(), append(1, [1])])[-3:], [[-4], [0, 1, 1], [1, 2]])

    def test_what_is_wrong_is_told_before_what_is_under_way(self):
        for begun in ([make(4, 128), append(1, [1])],
                      [make(4, 128), append(1, [1]), cut(0, [255] * 4)],
                      [make(4, 128), opening([0, 1, 2, 3])]):
            for kind, body in ((0, []), (256, []), (1, [256]), (1, [0] * 53)):
                self.assertEqual(last(begun + [append(kind, body)]), [-1])

    def test_under_way_is_told_before_that_it_cannot_be(self):
        begun = [make(4, 128), opening([1, 2, 3])] + appended(1, [0] * 24) + [append(1, [0] * 24)]
        self.assertEqual(run(begun + [append(1, [0] * 25), settle(), append(1, [0] * 25)])[-4:],
                         [[2, 2], [-4], [2], [-5]])

    def test_a_refusal_changes_nothing(self):
        keeper = Keeper()
        keeper.make(4, 128)
        rows = [list(row) for row in keeper.sectors]
        for kind, body in ((0, []), (256, []), (1, [256]), (1, [0] * 53)):
            self.assertEqual(keeper.append_record(kind, body), [-1])
            self.assertEqual((keeper.sectors, keeper.acts_under_way()), (rows, []))
        self.assertEqual(keeper.append_record(7, [8]), [1, 2])
        acts = acts_of(keeper)
        self.assertEqual(keeper.append_record(9, [10]), [-4])
        self.assertEqual((keeper.sectors, acts_of(keeper)), (rows, acts))

    def test_nothing_is_done_yet(self):
        keeper = Keeper()
        keeper.make(4, 128)
        rows = [list(row) for row in keeper.sectors]
        keeper.append_record(1, [0] * 52)
        self.assertEqual(keeper.sectors, rows)
        self.assertEqual((keeper.ring.place, keeper.ring.next_number), (48, 1))
        keeper.settle()
        rows = [list(row) for row in keeper.sectors]
        keeper.append_record(1, [0] * 52)
        self.assertEqual(keeper.sectors, rows)
        self.assertEqual((keeper.ring.newest, keeper.ring.ages), (0, {0: 1}))


class CannotBeTest(unittest.TestCase):
    def test_no_other_sector_than_the_newest(self):
        begun = [make(4, 128), opening([1, 2, 3])] + full_sectors(1)
        self.assertEqual(run(begun + [append(1, [0] * 52), settle(), opening()])[-3:], [[-5], [0], [0, 1, 2]])

    def test_the_newest_dead_and_one_other(self):
        for dead in ([0, 1, 2], [0, 1, 3], [0, 2, 3]):
            self.assertEqual(last([make(4, 128), opening(dead), append(1, [])]), [-5])

    def test_all_dead(self):
        self.assertEqual(last([make(4, 128), opening([0, 1, 2, 3]), append(1, [])]), [-5])

    def test_no_place_for_the_note_where_the_newest_is_dead(self):
        begun = [make(4, 128)] + full_sectors(4)
        self.assertEqual(last(begun + [opening([3]), append(1, [])]), [5, 4])
        self.assertEqual(last(begun + [opening([3, 0]), append(1, [])]), [-5])

    def test_no_place_for_the_note_behind_a_torn_record(self):
        begun = [make(4, 128)] + full_sectors(3) + appended(1, [0] * 40)
        torn = begun + [append(1, []), cut(0, [255, 255, 0])]
        self.assertEqual(last(torn + [opening([0]), append(1, [])]), [-5])
        self.assertEqual(last(torn + [opening([]), append(1, [])]), [5, 4])

    def test_the_note_just_has_its_place(self):
        for left, answer in ((13, [4, 7]), (12, [4, 7]), (11, [-5]), (0, [-5])):
            newest = sector(128, head(3, 1, 3), record(1, [0] * (128 - 52 - left)))
            keeper = keeper_of([sector(128, head(1, 1, 1)), sector(128, head(2, 1, 2)), newest, sector(128)])
            keeper.open_ring([3])
            self.assertEqual(keeper.ring.place, 128 - left)
            self.assertEqual(keeper.append_record(1, []), answer)

    def test_a_refusal_changes_nothing(self):
        keeper = keeper_of([sector(128, head(1, 1, 1))] + [sector(128)] * 3)
        keeper.open_ring([0, 1, 2])
        rows = [list(row) for row in keeper.sectors]
        self.assertEqual(keeper.append_record(1, []), [-5])
        self.assertEqual((keeper.sectors, keeper.acts_under_way()), (rows, []))
        self.assertEqual((keeper.ring.newest, keeper.ring.place, keeper.ring.next_number), (0, 48, 1))
        self.assertEqual(keeper.open_ring([]), [0, 1, 1])


class ActsTest(unittest.TestCase):
    def begun(self, rows, dead, body=()):
        """The acts of a record of kind 9 on these sectors."""
        keeper = keeper_of(rows)
        keeper.open_ring(dead)
        answer = keeper.append_record(9, list(body))
        self.assertEqual(answer[1], len(keeper.acts_under_way()))
        return acts_of(keeper)

    def test_in_the_newest(self):
        rows = [sector(128, head(1, 1, 1), record(1, [5, 6]))] + [sector(128)] * 3
        self.assertEqual(self.begun(rows, [], [3, 2, 1]), [(0, 55, [3, 0, 9, 3, 2, 1]), (0, 54, [0])])

    def test_a_body_of_more_than_255(self):
        rows = [sector(4096, head(1, 1, 1))] + [sector(4096)] * 3
        self.assertEqual(self.begun(rows, [], [7] * 515), [(0, 49, [3, 2, 9] + [7] * 515), (0, 48, [0])])

    def test_k_clean_and_j_not_there(self):
        full = record(1, [5] * 52)
        rows = [sector(128, head(1, 1, 1), full)] + [sector(128)] * 3
        self.assertEqual(self.begun(rows, [], [3]),
                         [(1, 0, head(2, 1, 2)), (2,)] + record_acts(1, 48, record(9, [3])))

    def test_k_not_clean_and_not_there(self):
        full = record(1, [5] * 52)
        for row in (sector(128, [255] * 127 + [0]), sector(128, head(1, 1, 1))):
            rows = [sector(128, head(5, 5, 1), full), row, sector(128), sector(128)]
            self.assertEqual(self.begun(rows, []),
                             [(1,), (1, 0, head(6, 5, 2)), (2,)] + record_acts(1, 48, record(9, [])))

    def test_j_there(self):
        full = record(1, [5] * 52)
        rows = [sector(128, head(5, 3, 30), full), sector(128), sector(128, head(3, 3, 10)), sector(128, head(4, 3, 20))]
        self.assertEqual(self.begun(rows, []),
                         [(1, 0, head(6, 4, 31)), (2,)] + record_acts(1, 48, record(9, [])))

    def test_k_there_and_j_there(self):
        full = record(1, [5] * 52)
        rows = [sector(128, head(6, 3, 40), full), sector(128, head(3, 3, 10)), sector(128, head(4, 3, 20)),
                sector(128, head(5, 3, 30))]
        self.assertEqual(self.begun(rows, []),
                         record_acts(0, 104, note(4)) + [(1,), (1, 0, head(7, 5, 41)), (2,)]
                         + record_acts(1, 48, record(9, [])))

    def test_k_there_and_j_not_there(self):
        full = record(1, [5] * 52)
        rows = [sector(128, head(6, 4, 40), full), sector(128, head(4, 3, 10)), sector(128), sector(128, head(5, 3, 30))]
        self.assertEqual(self.begun(rows, []),
                         record_acts(0, 104, note(5)) + [(1,), (1, 0, head(7, 5, 41)), (2,)]
                         + record_acts(1, 48, record(9, [])))

    def test_behind_a_note_the_least_age_is_the_notes(self):
        full = record(1, [5] * 52)
        rows = [sector(128, head(9, 4, 40), full), sector(128, head(4, 3, 10)), sector(128), sector(128)]
        self.assertEqual(self.begun(rows, [])[3], (1, 0, head(10, 5, 41)))

    def test_without_a_note_the_least_age_is_the_oldest_ones(self):
        full = record(1, [5] * 52)
        rows = [sector(128, head(9, 4, 40), full), sector(128), sector(128), sector(128, head(7, 4, 30))]
        self.assertEqual(self.begun(rows, [])[0], (1, 0, head(10, 7, 41)))

    def test_j_older_than_k_is_gone_with_the_note(self):
        full = record(1, [5] * 52)
        rows = [sector(128, head(6, 3, 40), full), sector(128, head(4, 3, 20)), sector(128, head(3, 3, 10)),
                sector(128, head(5, 3, 30))]
        self.assertEqual(self.begun(rows, [])[3], (1, 0, head(7, 5, 41)))

    def test_two_sectors_left(self):
        full = record(1, [5] * 52)
        rows = [sector(128, head(6, 5, 40), full), sector(128), sector(128, head(5, 5, 30)), sector(128)]
        self.assertEqual(self.begun(rows, [1, 3]),
                         record_acts(0, 104, note(6)) + [(2,), (2, 0, head(7, 7, 41)), (0,)]
                         + record_acts(2, 48, record(9, [])))
        self.assertEqual(self.begun(rows, [2, 3]),
                         [(1, 0, head(7, 7, 41)), (0,)] + record_acts(1, 48, record(9, [])))

    def test_the_newest_dead(self):
        rows = [sector(128, head(6, 5, 40)), sector(128), sector(128), sector(128, head(5, 5, 30))]
        self.assertEqual(self.begun(rows, [0]),
                         [(1, 0, head(7, 5, 40)), (2,)] + record_acts(1, 48, record(9, [])))

    def test_dead_sectors_are_passed_over(self):
        full = record(1, [5] * 52)
        rows = [sector(128, head(6, 4, 40), full), sector(128), sector(128), sector(128), sector(128, head(4, 4, 20)),
                sector(128, head(5, 4, 30))]
        self.assertEqual(self.begun(rows, [1, 3]),
                         [(2, 0, head(7, 5, 41)), (4,)] + record_acts(2, 48, record(9, [])))


if __name__ == "__main__":
    unittest.main()
