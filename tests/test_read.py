"""Promise 6: read."""

import unittest

from tests.handmade import head, keeper_of, note, record, sector
from tests.lines import (TOP, acts, append, appended, cut, dead, full_sectors, last, make, opening, read, run,
                         sector_of, settle, told)


def reads(numbers):
    return [read(number) for number in numbers]


def full_record(number):
    """What read answers of the number-th record that full_sectors wrote."""
    return [number] + [number - 1] * 52


class ReadTest(unittest.TestCase):
    def test_kind_then_body(self):
        begun = [make(4, 128)] + appended(7, [10, 20, 30]) + appended(255, []) + appended(1, [0, 255])
        self.assertEqual(run(begun + reads((1, 2, 3)))[-3:], [[7, 10, 20, 30], [255], [1, 0, 255]])

    def test_the_longest_bodies(self):
        for m in (128, 4096):
            body = [(p * 7) % 256 for p in range(m - 76)]
            self.assertEqual(last([make(4, m)] + appended(9, body) + [read(1)]), [9] + body)

    def test_a_body_of_255_bytes_and_more(self):
        for size in (255, 256, 257, 511, 512, 1000):
            begun = [make(4, 4096)] + appended(3, [255] * size) + appended(4, [size % 256])
            self.assertEqual(run(begun + reads((1, 2)))[-2:], [[3] + [255] * size, [4, size % 256]])

    def test_none_in_a_new_store(self):
        for number in (0, 1, 2, TOP):
            self.assertEqual(last([make(4, 128), read(number)]), [-2], number)

    def test_the_edges_of_what_is_there(self):
        # Of four sectors three are there, with a record each.
        begun = [make(4, 128)] + full_sectors(6)
        self.assertEqual(last(begun + [told()])[1:3], [4, 7])
        for number in (4, 5, 6):
            self.assertEqual(last(begun + [read(number)]), full_record(number))
        for number in (0, 1, 2, 3, 7, 8, TOP - 1, TOP):
            self.assertEqual(last(begun + [read(number)]), [-2], number)

    def test_several_in_each_sector(self):
        calls = [make(5, 200)]
        bodies = {}
        for number in range(1, 41):
            bodies[number] = [number] * (number % 30)
            calls += appended(number, bodies[number])
        first, following = last(calls + [told()])[1:3]
        self.assertTrue(1 < first < 30 and following == 41)
        answered = run(calls + reads(range(42)))[-42:]
        for number in range(42):
            self.assertEqual(answered[number], [number] + bodies[number] if first <= number < 41 else [-2], number)

    def test_as_it_was_before_what_is_under_way(self):
        begun = [make(4, 128)] + appended(5, [6]) + [append(7, [8])]
        self.assertEqual(run(begun + reads((1, 2)) + [settle()] + reads((1, 2)))[-5:],
                         [[5, 6], [-2], [2], [5, 6], [7, 8]])

    def test_under_way_is_a_new_sector_that_lets_one_go(self):
        begun = [make(4, 128)] + full_sectors(3) + [append(4, [3] * 52)]
        answered = run(begun + reads((1, 3, 4)) + [settle()] + reads((1, 2, 3, 4)))[-8:]
        self.assertEqual(answered, [full_record(1), full_record(3), [-2], [4], [-2], full_record(2), full_record(3),
                                    full_record(4)])

    def test_behind_notes(self):
        # Sector 0 is dead, so a note lets sector 1 go, and sector 2 goes as the one behind it.
        begun = [make(5, 128)] + full_sectors(5) + [opening([0]), append(6, [5] * 52)]
        self.assertEqual(run(begun)[-2:], [[0, 2, 6], [6, 7]])
        self.assertEqual(run(begun + reads((2, 3, 6)))[-3:], [full_record(2), full_record(3), [-2]])
        self.assertEqual(run(begun + [settle()] + reads(range(1, 8)))[-7:],
                         [[-2], [-2], [-2], full_record(4), full_record(5), full_record(6), [-2]])

    def test_a_note_between_records_has_no_number(self):
        row = sector(256, head(3, 1, 30), record(1, [1]), note(1), record(255, []), note(2), record(2, [2]))
        keeper = keeper_of([row] + [sector(256)] * 3)
        keeper.open_ring([])
        self.assertEqual([keeper.read_record(number) for number in range(29, 34)], [[-2], [1, 1], [255], [2, 2], [-2]])

    def test_behind_a_note_that_was_cut_off(self):
        # The note is there and the erase of sector 1 wasn't begun: its bytes are whole, but it's gone.
        begun = [make(4, 128)] + full_sectors(4) + [opening([0]), append(9, []), cut(2, [0] * 128)]
        answered = run(begun + [sector_of(1), opening()] + reads((1, 2, 3, 4, 5)))[-7:]
        self.assertEqual(answered[0], [128] + sector(128, head(2, 1, 2), record(2, [1] * 52)))
        self.assertEqual(answered[1:], [[0, 3, 5], [-2], [-2], full_record(3), full_record(4), [-2]])

    def test_behind_a_cut_and_an_open(self):
        begun = [make(4, 128)] + appended(5, [6]) + [append(7, [8, 9])]
        for i, mask, second in ((0, [0] * 5, [-2]), (0, [255] * 5, [-2]), (0, [15] * 5, [-2]), (1, [255], [-2]),
                                (1, [0], [7, 8, 9]), (1, [254], [7, 8, 9]), (1, [127], [7, 8, 9])):
            answered = run(begun + [cut(i, mask), opening()] + reads((0, 1, 2, 3)))[-4:]
            self.assertEqual(answered, [[-2], [5, 6], second, [-2]], (i, mask))

    def test_the_number_goes_to_another_record_behind_a_cut(self):
        begun = [make(4, 128)] + appended(5, [6]) + [append(7, [8, 9]), cut(0, [0] * 5), opening()]
        self.assertEqual(run(begun + appended(10, [11]) + reads((1, 2, 3)))[-3:], [[5, 6], [10, 11], [-2]])

    def test_two_sectors_with_one_first_number(self):
        # The newest dies without a record: the next sector begins with the number that it began with.
        begun = [make(4, 128), dead(0)] + appended(5, [6]) + appended(7, [8])
        self.assertEqual(run(begun + [told()] + reads((0, 1, 2, 3)))[-5:],
                         [[0, 1, 3, 2, 1, 2, 58, 2, 1, 0], [-2], [5, 6], [7, 8], [-2]])

    def test_records_of_dead_sectors(self):
        begun = [make(4, 128)] + full_sectors(3)
        for lost in ([0], [1], [2], [0, 1, 2], [0, 1, 2, 3]):
            marks = [dead(k) for k in lost]
            self.assertEqual(run(begun + marks + reads((1, 2, 3)))[-3:], [full_record(k) for k in (1, 2, 3)])
            self.assertEqual(run(begun + [opening(lost)] + reads((1, 2, 3)))[-3:], [full_record(k) for k in (1, 2, 3)])

    def test_not_open(self):
        closed = [make(4, 128)] + appended(5, [6]) + [append(7, [8]), cut(0, [255] * 4)]
        for number in (0, 1, 2, TOP):
            self.assertEqual(run(closed + [read(number), opening(), read(1)])[-3:], [[-4], [0, 1, 2], [5, 6]])

    def test_a_make_again_has_none(self):
        self.assertEqual(last([make(4, 128)] + appended(5, [6]) + [make(4, 128), read(1)]), [-2])

    def test_it_changes_nothing(self):
        for begun in ([make(4, 128)] + full_sectors(5) + [append(1, [])],
                      [make(4, 128)] + full_sectors(5) + [append(1, []), cut(1, [1] * 128)]):
            looks = [told(), acts()] + [sector_of(k) for k in range(4)]
            plain = run(begun + looks)[-6:]
            self.assertEqual(run(begun + reads((0, 3, 4, 5, 6, TOP)) + looks)[-6:], plain)


if __name__ == "__main__":
    unittest.main()
