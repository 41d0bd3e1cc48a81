"""The calls that ask for the clocks of the order: now, ends, times, waits, swap."""

import random
import unittest

from lines import (
    ENDS, FAR, NOW, TIMES, WAITS, answered, book, empty, last_answer, order, slow_times, slow_whole_orders, some_rooms,
    swap, told,
)

from twodesks.clocks import work_done


class Work(unittest.TestCase):
    def test_of_no_length_is_done_at_once(self):
        for begun in (0, 2, 3, 4, 9):
            self.assertEqual(work_done(begun, 0, [(2, 4)]), begun)

    def test_begun_in_a_stretch(self):
        stretches = [(2, 5)]
        for begun in (2, 3, 4, 5):
            self.assertEqual(work_done(begun, 1, stretches), 6)
            self.assertEqual(work_done(begun, 3, stretches), 8)

    def test_done_where_a_stretch_begins(self):
        self.assertEqual(work_done(0, 2, [(2, 5)]), 2)
        self.assertEqual(work_done(0, 3, [(2, 5)]), 6)

    def test_over_several_stretches(self):
        stretches = [(1, 3), (4, 6), (6, 8), (9, 10)]
        self.assertEqual([work_done(0, length, stretches) for length in range(6)], [0, 1, 4, 9, 11, 12])

    def test_stretches_that_touch(self):
        self.assertEqual(work_done(0, 3, [(2, 4), (4, 7)]), 8)
        self.assertEqual(work_done(4, 1, [(2, 4), (4, 7)]), 8)

    def test_behind_all_stretches(self):
        self.assertEqual(work_done(20, 3, [(2, 4), (4, 7)]), 23)


class Clocks(unittest.TestCase):
    def test_examples_of_the_document(self):
        before = [book(3, 2, 1, 4), book(1, 5), order(0, 1, 0)]
        self.assertEqual(answered(*before, NOW, ENDS, TIMES, WAITS, empty(1, 2, 4), ENDS)[3:],
                         [[3, 0, 1, 0], [5, 14, 1], [3, 3, 5, 4, 10, 5, 14], [3, 3, 0, 0], [1], [7, 16, 1]])

    def test_before_the_first_call(self):
        for call, answer in ((NOW, [0]), (ENDS, [0, 0, 1]), (TIMES, [0]), (WAITS, [0])):
            self.assertEqual(answered(call), [answer])

    def test_of_an_empty_order(self):
        for before in ([book(3, 2)], [book(3, 2), empty(1, 0, 9), empty(2, 0, 9)]):
            self.assertEqual(answered(*before, NOW, ENDS, TIMES, WAITS)[len(before):], [[0], [0, 0, 0], [0], [0]])

    def test_ends_of_a_begun_order(self):
        told_before = [book(3, 2, 1, 4), book(1, 5)]
        self.assertEqual(last_answer(*told_before, order(0), ENDS), [3, 5, 0])
        self.assertEqual(last_answer(*told_before, order(1, 0), ENDS), [4, 8, 0])

    def test_a_sheet_of_no_length_at_an_empty_desk(self):
        self.assertEqual(last_answer(book(0, 0), empty(1, 0, 5), empty(2, 0, 5), order(0), TIMES), [1, 0, 0])
        self.assertEqual(last_answer(book(2, 0), empty(2, 0, 5), order(0), TIMES), [1, 2, 2])
        self.assertEqual(last_answer(book(0, 2), empty(1, 0, 5), empty(2, 1, 5), order(0), TIMES), [1, 0, 6])
        self.assertEqual(last_answer(book(2, 1, 0, 1), empty(1, 2, 5), order(0, 0), TIMES), [2, 2, 3, 2, 4])

    def test_checked_only_when_computed_and_the_desk_is_free(self):
        self.assertEqual(last_answer(book(1, 9, 1, 1), order(0, 0), TIMES), [2, 1, 10, 2, 11])
        self.assertEqual(last_answer(book(1, 1, 9, 1), order(0, 0), TIMES), [2, 1, 2, 10, 11])

    def test_waits_of_the_second_desk(self):
        self.assertEqual(last_answer(book(1, 1, 9, 1, 1, 0), order(0, 0, 0), WAITS), [3, 1, 8, 0])
        self.assertEqual(last_answer(book(2, 3, 3, 1), order(0, 0), WAITS), [2, 2, 0])
        self.assertEqual(last_answer(book(2, 3, 4, 1), order(0, 0), WAITS), [2, 2, 1])
        self.assertEqual(last_answer(book(0, 0), order(0), WAITS), [1, 0])

    def test_waits_with_empty_times(self):
        # The second desk is free from 0 on, though it's empty until 7.
        self.assertEqual(last_answer(book(2, 1), empty(2, 0, 7), order(0), WAITS), [1, 2])
        self.assertEqual(last_answer(book(2, 1, 8, 1), empty(2, 3, 7), empty(1, 4, 6), order(0, 0), WAITS), [2, 2, 9])

    def test_the_same_as_moment_by_moment(self):
        chance = random.Random(1)
        for books, empties in some_rooms(chance, 150):
            row = list(chance.choice(slow_whole_orders(books)))
            row = row[:chance.randint(0, len(row))] if chance.randint(0, 1) else row
            times = slow_times(books, empties, row)
            frees = [0] + [second for first, second in times]
            whole = int(len(row) == sum(len(sheets) for sheets in books))
            waits = [max(0, first - free) for (first, second), free in zip(times, frees)]
            calls = told(books, empties) + [order(*row), NOW, ENDS, TIMES, WAITS]
            self.assertEqual(answered(*calls)[-5:], [
                [whole],
                [len(row)] + row,
                list(times[-1] if times else (0, 0)) + [whole],
                [len(row)] + [moment for pair in times for moment in pair],
                [len(row)] + waits,
            ])


class Swap(unittest.TestCase):
    BEFORE = [book(3, 2, 1, 4), book(1, 5), order(0, 1, 0)]

    def test_the_first_and_the_last_place(self):
        # 1 0 0, and 0 0 1.
        self.assertEqual(answered(*self.BEFORE, swap(0), swap(1))[3:], [[5, 12], [5, 14]])
        self.assertEqual(last_answer(book(9, 1), book(1, 9), order(0, 1), swap(0)), [10, 11])
        self.assertEqual(last_answer(book(9, 1), book(1, 9), order(1, 0), swap(0)), [10, 19])

    def test_out_of_range(self):
        for place in (2, 3, -1, -2, FAR, -FAR - 1):
            self.assertEqual(last_answer(*self.BEFORE, swap(place)), [-1])
            self.assertEqual(last_answer(*self.BEFORE, empty(1, 2, 4), swap(place)), [-1])

    def test_of_fewer_than_two_sheets(self):
        for before in ([], [book(3, 2)], [book(3, 2), order(0)], [book(3, 2, 1, 4), order(0)]):
            for place in (0, -1, 1):
                self.assertEqual(last_answer(*before, swap(place)), [-1])

    def test_the_same_book_at_both_places(self):
        self.assertEqual(last_answer(book(3, 2, 1, 4), order(0, 0), swap(0)), [4, 9])
        before = [book(3, 2, 1, 4), book(1, 5), order(1, 0, 0)]
        self.assertEqual(answered(*before, swap(0), swap(1), ENDS)[3:], [[5, 14], [5, 12], [5, 12, 1]])

    def test_the_sheets_of_a_book_stay_in_their_order(self):
        # Behind the exchange the row is 1 0 0 with the sheets 2 9, 1 1, 8 1.
        self.assertEqual(last_answer(book(1, 1, 8, 1), book(2, 9), order(0, 1, 0), swap(0)), [11, 13])

    def test_of_a_begun_order(self):
        self.assertEqual(last_answer(book(3, 2, 1, 4), book(1, 5), order(0, 1), swap(0)), [4, 8])

    def test_the_order_stays_as_it_was(self):
        self.assertEqual(answered(*self.BEFORE, swap(0), NOW, ENDS, swap(5), NOW, swap(0), swap(1), NOW)[3:],
                         [[5, 12], [3, 0, 1, 0], [5, 14, 1], [-1], [3, 0, 1, 0], [5, 12], [5, 14], [3, 0, 1, 0]])

    def test_with_empty_times(self):
        self.assertEqual(last_answer(*self.BEFORE, empty(1, 2, 4), swap(0)), [7, 12])
        self.assertEqual(last_answer(*self.BEFORE, empty(2, 2, 4), swap(0)), [5, 14])
        self.assertEqual(last_answer(*self.BEFORE, empty(1, 0, 3), empty(2, 5, 6), swap(0)), [8, 16])

    def test_the_same_as_moment_by_moment(self):
        chance = random.Random(9)
        for books, empties in some_rooms(chance, 100):
            row = list(chance.choice(slow_whole_orders(books)))
            row = row[:chance.randint(0, len(row))] if chance.randint(0, 1) else row
            for place in range(len(row) - 1):
                exchanged = list(row)
                exchanged[place:place + 2] = [row[place + 1], row[place]]
                self.assertEqual(last_answer(*told(books, empties), order(*row), swap(place)),
                                 list(slow_times(books, empties, exchanged)[-1]))


if __name__ == "__main__":
    unittest.main()
