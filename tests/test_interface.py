"""The interface: one list of calls in, one list of answers out, nothing changed and nothing kept."""

import unittest

from ringstore import store
from tests.lines import (TOP, acts, append, appended, cut, dead, full_sectors, make, opening, read, run, sector_of,
                         settle, told)


class Watched(list):
    """A list that can't be changed."""

    def refuse(self, *args, **kwargs):
        raise AssertionError("the list handed in was changed")

    append = extend = insert = pop = remove = clear = sort = reverse = refuse
    __setitem__ = __delitem__ = __iadd__ = __imul__ = refuse


def line_of(calls):
    return [number for call in calls for number in call]


class InterfaceTest(unittest.TestCase):
    def test_the_form_of_calls_and_answers(self):
        self.assertEqual(store.answers([0, 4, 128]), [1, 0])
        self.assertEqual(store.answers([0, 4, 128, 1, 0]), [1, 0, 3, 0, 1, 1])
        self.assertEqual(store.answers([0, 4, 128, 1, 2, 3, 1]), [1, 0, 3, 0, 1, 1])
        self.assertEqual(store.answers([0, 4, 128, 2, 7, 3, 10, 20, 30, 3]), [1, 0, 2, 1, 2, 1, 2])
        self.assertEqual(store.answers([0, 4, 128, 2, 7, 0, 3, 3]), [1, 0, 2, 1, 2, 1, 2, 1, 0])
        self.assertEqual(store.answers([0, 4, 128, 2, 7, 0, 4, 1, 1, 255, 1, 0]), [1, 0, 2, 1, 2, 1, 0, 3, 0, 1, 1])

    def test_the_form_of_calls_that_look(self):
        begun = [0, 4, 128, 2, 7, 2, 10, 20]
        answered = [1, 0, 2, 1, 2]
        self.assertEqual(store.answers(begun + [3, 5, 1]), answered + [1, 2, 3, 7, 10, 20])
        self.assertEqual(store.answers([0, 4, 128, 6, 3, 6, 0]), [1, 0, 2, 0, 1, 2, 0, 2])
        self.assertEqual(store.answers(begun + [7]), answered + [10, 0, 1, 1, 1, 0, 1, 48, 1, 1, 2])
        self.assertEqual(store.answers(begun + [8, 1]), answered + [129, 128] + [255] * 128)
        self.assertEqual(store.answers(begun + [9]), answered + [15, 2, 0, 0, 49, 5, 2, 0, 7, 10, 20, 0, 0, 48, 1, 0])
        self.assertEqual(store.answers([0, 4, 128, 9, 9]), [1, 0, 1, 0, 1, 0])

    def test_refusals_of_calls_that_look(self):
        self.assertEqual(store.answers([0, 4, 128, 5, 1, 6, 4, 8, 4, 6, 0, 6, 0]),
                         [1, 0, 1, -2, 1, -1, 1, -1, 2, 0, 1, 1, -2])
        closed = [0, 4, 128, 2, 7, 0, 4, 1, 1, 255]
        self.assertEqual(store.answers(closed + [5, 1, 6, 0, 7, 9]),
                         [1, 0, 2, 1, 2, 1, 0, 1, -4, 1, -4, 1, -4, 1, 0])

    def test_refusals_are_their_number_alone(self):
        self.assertEqual(store.answers([0, 4, 128, 0, 3, 128, 1, 1, 4, 2, 0, 0, 4, 0, 0, 3]),
                         [1, 0, 1, -1, 1, -1, 1, -1, 1, -1, 1, 0])
        self.assertEqual(store.answers([0, 4, 128, 2, 1, 0, 2, 1, 0, 1, 0]), [1, 0, 2, 1, 2, 1, -4, 1, -4])
        self.assertEqual(store.answers([0, 4, 128, 1, 4, 0, 1, 2, 3, 2, 1, 0]), [1, 0, 3, 0, 1, 1, 1, -5])

    def test_rows_that_look_like_calls(self):
        self.assertEqual(run([make(4, 128), append(3, [3, 3, 3]), settle(), opening([0, 3])])[1:], [[1, 2], [2], [0, 1, 2]])

    def test_the_list_is_not_changed(self):
        calls = [make(4, 128)] + full_sectors(6) + [append(1, [1]), cut(0, [0] * 48), opening([1]), append(1, [TOP])]
        calls += [read(5), dead(0), told(), sector_of(2), append(1, [1]), acts(), make(4, 128)]
        line = line_of(calls)
        watched = Watched(line)
        self.assertEqual(store.answers(watched), store.answers(line))
        self.assertEqual(list(watched), line)

    def test_nothing_is_kept(self):
        line = line_of([make(4, 128)] + full_sectors(5) + [opening([1]), dead(2), append(1, [1]), acts(), told(),
                                                           sector_of(0), read(5)])
        once = store.answers(line)
        store.answers(line_of([make(5, 200), opening([0, 1, 2, 3, 4]), append(1, [])]))
        self.assertEqual(store.answers(line), once)

    def test_an_answer_is_a_new_list_of_whole_numbers(self):
        line = line_of([make(4, 128)] + appended(5, [6]) + [opening(), told(), dead(1), told(), append(1, []), told(),
                                                            acts(), sector_of(0), read(1), read(2)])
        given = store.answers(line)
        self.assertIs(type(given), list)
        self.assertEqual({type(number) for number in given}, {int})
        given.append(0)
        self.assertEqual(store.answers(line), given[:-1])

    def test_a_line_of_three_hundred_calls(self):
        calls = [make(64, 4096)] + appended(9, [1] * 40) * 149 + [opening()]
        answered = run(calls)
        self.assertEqual(len(answered), 300)
        self.assertEqual(answered[-1], [0, 1, 150])

    def test_a_line_of_long_rows(self):
        calls = [make(4, 4096)] + appended(9, [1] * 4020) * 3 + [opening(range(1000)), append(1, [0] * 2000)]
        self.assertLess(len(line_of(calls)), 16000)
        self.assertEqual(run(calls)[-2:], [[-1], [4, 4]])

    def test_a_number_that_is_no_call(self):
        for number in (10, TOP):
            with self.assertRaises(store.UnknownCall):
                store.answers([0, 4, 128, number])

    def test_many_long_answers(self):
        calls = [make(64, 4096)] + [sector_of(k % 64) for k in range(243)] + [told()] * 56
        answered = run(calls)
        self.assertEqual(len(calls), 300)
        self.assertLess(sum(len(row) for row in answered), 1000000)
        self.assertEqual({len(row) for row in answered[1:244]}, {4097})

    def test_a_sector_of_many_records_read_again(self):
        calls = [make(4, 4096)]
        for k in range(99):
            calls += appended(1 + k, [k] * (k % 20))
        calls += [read(1 + k) for k in range(99)]
        self.assertEqual(run(calls)[-99:], [[1 + k] + [k] * (k % 20) for k in range(99)])

    def test_makes_over_and_over(self):
        self.assertEqual(run([make(64, 4096)] * 300), [[0]] * 300)


if __name__ == "__main__":
    unittest.main()
