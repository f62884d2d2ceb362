"""Promise 7: dead, and what's appended behind it."""

import unittest

from tests.handmade import head, record, sector
from tests.lines import (TOP, acts, append, appended, cut, dead, full_sectors, last, make, opening, read, run,
                         sector_of, settle, told)

# Behind these calls sector 3 is the newest, 1 to 3 are there, 0 is spare and clean.
FULL = [make(4, 128)] + full_sectors(4)


def spare_told(row):
    """Of what told answers: the spare one, whether it's clean."""
    return row[7:9]


class DeadCallTest(unittest.TestCase):
    def test_how_many_are_dead(self):
        self.assertEqual(run([make(4, 128), dead(2), dead(0), dead(3), dead(1)])[1:], [[0, 1], [0, 2], [0, 3], [0, 4]])

    def test_those_of_the_open_count_too(self):
        self.assertEqual(run([make(6, 128), opening([1, 4]), dead(0), dead(4), dead(5)])[2:], [[0, 3], [-2], [0, 4]])

    def test_no_such_sector(self):
        for n in (4, 5, 64):
            for k in (n, n + 1, TOP):
                self.assertEqual(last([make(n, 128), dead(k)]), [-1], (n, k))
            for k in (0, n - 1):
                self.assertEqual(last([make(n, 128), dead(k)]), [0, 1], (n, k))

    def test_something_under_way(self):
        begun = [make(4, 128), append(1, [])]
        self.assertEqual(run(begun + [dead(0), dead(3), settle(), dead(3)])[-4:], [[-4], [-4], [2], [0, 1]])

    def test_not_open(self):
        closed = [make(4, 128), append(1, []), cut(0, [255] * 3)]
        self.assertEqual(run(closed + [dead(0), opening(), dead(0)])[-3:], [[-4], [0, 1, 1], [0, 1]])

    def test_dead_already(self):
        self.assertEqual(run([make(4, 128), dead(2), dead(2), dead(1), dead(2)])[1:], [[0, 1], [-2], [0, 2], [-2]])
        self.assertEqual(run([make(4, 128), opening([2]), dead(2), dead(1)])[2:], [[-2], [0, 2]])

    def test_no_such_sector_is_told_first(self):
        for begun in ([make(4, 128), append(1, [])], [make(4, 128), append(1, []), cut(0, [255] * 3)],
                      [make(4, 128), opening([0, 1, 2, 3])]):
            for k in (4, TOP):
                self.assertEqual(last(begun + [dead(k)]), [-1])

    def test_under_way_and_not_open_are_told_before_dead_already(self):
        begun = [make(4, 128), dead(2), append(1, [])]
        self.assertEqual(last(begun + [dead(2)]), [-4])
        self.assertEqual(last(begun + [cut(0, [255] * 3), dead(2)]), [-4])

    def test_a_refusal_changes_nothing(self):
        looks = [told(), acts()] + [sector_of(k) for k in range(4)]
        for begun, wrong, refusal in ((FULL, dead(4), [-1]), (FULL, dead(TOP), [-1]),
                                      (FULL + [append(1, [])], dead(0), [-4]),
                                      (FULL + [append(1, [])], dead(3), [-4]),
                                      (FULL + [append(1, []), cut(1, [0] * 128)], dead(0), [-4]),
                                      (FULL + [dead(0)], dead(0), [-2]), (FULL + [dead(3)], dead(3), [-2])):
            rest = looks + [settle(), told(), opening(), append(1, [0] * 52), acts()]
            answered = run(begun + [wrong] + rest)
            self.assertEqual(answered[len(begun)], refusal)
            self.assertEqual(answered[len(begun) + 1:], run(begun + rest)[len(begun):])

    def test_a_refused_one_is_not_dead_behind_the_settle(self):
        self.assertEqual(run(FULL + [append(1, []), dead(1), settle(), told(), dead(1)])[-3:],
                         [[4], [0, 3, 6, 3, 0, 5, 52, 1, 1, 0], [0, 1]])

    def test_an_open_takes_it_back(self):
        self.assertEqual(run(FULL + [dead(0), opening(), told(), dead(0)])[-3:],
                         [[0, 2, 5], [0, 2, 5, 3, 3, 4, 104, 0, 1, 0], [0, 1]])

    def test_a_make_takes_it_back(self):
        self.assertEqual(run([make(4, 128), dead(1), make(4, 128), told(), dead(1)])[-2:],
                         [[0, 1, 1, 1, 0, 1, 48, 1, 1, 0], [0, 1]])

    def test_bytes_stay(self):
        looks = [sector_of(k) for k in range(4)]
        self.assertEqual(run(FULL + [dead(3), dead(0), dead(2)] + looks)[-4:], run(FULL + looks)[-4:])

    def test_dead_stays_dead_behind_appends(self):
        calls = [make(5, 128), dead(2)] + full_sectors(12)
        self.assertEqual(last(calls + [dead(2)]), [-2])
        self.assertEqual(last(calls + [dead(4)]), [0, 2])
        self.assertEqual(last(calls + [sector_of(2)]), [128] + [255] * 128)


class SpareTest(unittest.TestCase):
    def test_of_the_spare_one(self):
        # Sector 1 is the spare one then: it's there, and so not clean.
        self.assertEqual(run(FULL + [told(), dead(0), told()])[-3:],
                         [[0, 2, 5, 3, 3, 4, 104, 0, 1, 0], [0, 1], [0, 2, 5, 3, 3, 4, 104, 1, 0, 0]])

    def test_of_one_that_is_there(self):
        for k in (1, 2):
            self.assertEqual(run(FULL + [dead(k), told()])[-2:], [[0, 1], [0, 2, 5, 3, 3, 4, 104, 0, 1, 0]])

    def test_of_the_newest(self):
        self.assertEqual(run(FULL + [dead(3), told()])[-2:], [[0, 1], [0, 2, 5, 3, 3, 4, 104, 0, 1, 0]])

    def test_of_one_that_is_not_there(self):
        begun = [make(4, 128)] + full_sectors(1)
        for k, spare in ((1, 2), (2, 1), (3, 1)):
            self.assertEqual(run(begun + [dead(k), told()])[-2:], [[0, 1], [0, 1, 2, 1, 0, 1, 104, spare, 1, 0]])

    def test_until_all_are_dead(self):
        calls = FULL[:]
        for k, spare, clean in ((2, 0, 1), (0, 1, 0), (1, 3, 0), (3, 3, 0)):
            calls += [dead(k)]
            self.assertEqual(spare_told(last(calls + [told()])), [spare, clean], k)
        calls = FULL[:]
        for k, spare, clean in ((3, 0, 1), (0, 1, 0), (1, 2, 0), (2, 3, 0)):
            calls += [dead(k)]
            self.assertEqual(spare_told(last(calls + [told()])), [spare, clean], k)

    def test_clean_is_looked_at_anew(self):
        # The erase of sector 2 is torn: 1 is the newest and 2 the spare one; 3 behind it is there.
        for mask, clean in (([255] * 128, 1), ([255] * 104 + [0] * 24, 1), ([255] * 103 + [0] * 25, 0),
                            ([0] * 128, 0), ([0] + [255] * 127, 0)):
            begun = [make(5, 128)] + full_sectors(6) + [append(9, []), cut(1, mask), opening()]
            answered = run(begun + [told(), dead(2), told()])
            self.assertEqual(spare_told(answered[-3]), [2, clean], mask)
            self.assertEqual(spare_told(answered[-1]), [3, 0], mask)

    def test_from_one_not_clean_to_a_clean_one(self):
        begun = [make(5, 128)] + full_sectors(1) + [append(2, [1] * 52), cut(0, [1] * 48), opening()]
        self.assertEqual(run(begun + [told(), dead(1), told()])[-3:],
                         [[0, 1, 2, 1, 0, 1, 104, 1, 0, 0], [0, 1], [0, 1, 2, 1, 0, 1, 104, 2, 1, 0]])
        self.assertEqual(run(begun + [append(2, [1] * 52)])[-1], [2, 5])
        self.assertEqual(run(begun + [dead(1), append(2, [1] * 52)])[-1], [2, 4])

    def test_from_a_clean_one_to_one_not_clean_and_not_there(self):
        # Sector 2's head is torn; with 1 taken back it is the one behind the spare one.
        begun = [make(5, 128), dead(1)] + full_sectors(1) + [append(2, [1] * 52), cut(0, [1] * 48), opening()]
        self.assertEqual(run(begun + [told(), dead(1), told(), append(2, [1] * 52)])[-4:],
                         [[0, 1, 2, 1, 0, 1, 104, 1, 1, 0], [0, 1], [0, 1, 2, 1, 0, 1, 104, 2, 0, 0], [2, 5]])


class AppendTest(unittest.TestCase):
    def test_behind_the_newest_dead(self):
        # There'd be a place in sector 0, but it is dead.
        begun = [make(4, 128)] + appended(5, [6]) + [dead(0), append(7, [8])]
        self.assertEqual(run(begun + [acts()])[-2:],
                         [[2, 4], [4] + [0, 1, 0, 48] + head(2, 1, 2) + [1, 2] + [0, 1, 49, 4, 1, 0, 7, 8, 0, 1, 48, 1, 0]])
        self.assertEqual(run(begun + [settle(), told(), read(1), read(2)])[-3:],
                         [[0, 1, 3, 2, 1, 2, 53, 2, 1, 0], [5, 6], [7, 8]])

    def test_behind_the_spare_one_dead(self):
        begun = FULL + [dead(0), append(9, [9])]
        self.assertEqual(run(begun + [settle(), told(), sector_of(3)])[-4:],
                         [[5, 7], [7], [0, 4, 6, 2, 1, 5, 53, 2, 1, 0],
                          [128] + sector(128, head(4, 2, 4), record(4, [3] * 52), record(0, [3] + [0] * 7))])

    def test_behind_the_newest_and_the_spare_one_dead(self):
        # Sector 1 is still there and the newest can't take the note.
        self.assertEqual(last(FULL + [dead(3), dead(0), append(9, [9])]), [-5])
        self.assertEqual(last(FULL + [dead(0), dead(3), append(9, [9])]), [-5])

    def test_behind_one_that_is_there_dead(self):
        # Sector 2 is the one behind the spare one then: 1 goes with it.
        begun = FULL + [dead(1), append(9, [9])]
        self.assertEqual(run(begun + [acts()])[-1][5:53], head(5, 4, 5))
        self.assertEqual(run(begun + [settle(), told(), read(3), read(4), read(5)])[-4:],
                         [[0, 4, 6, 2, 0, 5, 53, 2, 1, 0], [-2], [4] + [3] * 52, [9, 9]])

    def test_behind_one_that_is_not_there_dead(self):
        begun = [make(4, 128)] + full_sectors(1) + [dead(1), append(9, [9]), settle(), told()]
        self.assertEqual(run(begun)[-3:], [[2, 4], [4], [0, 1, 3, 2, 2, 2, 53, 3, 1, 0]])

    def test_in_a_sector_alone(self):
        begun = [make(4, 128), dead(1), dead(2), dead(3)]
        self.assertEqual(run(begun + [told()] + appended(5, [6] * 24) + appended(7, [8] * 23))[-5:],
                         [[0, 1, 1, 1, 0, 1, 48, 0, 0, 0], [1, 2], [2], [2, 2], [2]])
        full = begun + appended(5, [6] * 24) + appended(7, [8] * 23)
        self.assertEqual(run(full + [append(9, []), told(), read(1), read(2)])[-4:],
                         [[-5], [0, 1, 3, 1, 0, 1, 103, 0, 0, 0], [5] + [6] * 24, [7] + [8] * 23])

    def test_all_dead(self):
        begun = [make(4, 128)] + appended(5, [6]) + [dead(k) for k in (0, 1, 2, 3)]
        self.assertEqual(run(begun + [append(7, []), settle(), told(), read(1), dead(0)])[-5:],
                         [[-5], [0], [0, 1, 2, 1, 0, 1, 53, 0, 0, 0], [5, 6], [-2]])
        self.assertEqual(last(begun + [opening(), append(7, [])]), [2, 2])

    def test_one_left_that_is_not_the_newest(self):
        for left in (1, 2, 3):
            marks = [dead(k) for k in range(4) if k != left]
            self.assertEqual(run([make(4, 128)] + marks + [told(), append(7, [])])[-2:],
                             [[0, 1, 1, 1, 0, 1, 48, left, 1, 0], [-5]])

    def test_two_left(self):
        # The newest itself is the one behind the spare one: nothing is there but the new sector.
        begun = [make(4, 128)] + full_sectors(1) + [dead(1), dead(3), append(9, [9])]
        self.assertEqual(run(begun + [acts()])[-1][:55], [4, 0, 2, 0, 48] + head(2, 2, 2) + [1, 0])
        self.assertEqual(run(begun + [settle(), told(), read(1), read(2)])[-3:],
                         [[0, 2, 3, 1, 2, 2, 53, 0, 1, 0], [-2], [9, 9]])


if __name__ == "__main__":
    unittest.main()
