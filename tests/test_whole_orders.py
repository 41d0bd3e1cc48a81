"""The calls that ask for the best of the whole orders: least, best, left, next."""

import random
import unittest

from lines import (
    BEST, LEAST, LEFT, NEXT, answered, book, empty, last_answer, order, slow_end, slow_whole_orders, some_rooms, told,
)


class WholeOrders(unittest.TestCase):
    def test_examples_of_the_document(self):
        before = [book(3, 2, 1, 4), book(1, 5)]
        self.assertEqual(answered(*before, LEAST, BEST)[2:], [[12, 3], [3, 1, 0, 0]])
        self.assertEqual(answered(*before, order(0, 1, 0), LEFT, NEXT)[3:], [[14], [2, -1, -1]])

    def test_without_books(self):
        self.assertEqual(answered(LEAST, BEST, LEFT), [[0, 1], [0], [0]])
        self.assertEqual(answered(empty(1, 0, 9), empty(2, 0, 9), LEAST, BEST, LEFT)[2:], [[0, 1], [0], [0]])

    def test_one_book(self):
        self.assertEqual(answered(book(3, 2, 1, 4), LEAST, BEST, LEFT)[1:], [[9, 1], [2, 0, 0], [9]])
        self.assertEqual(answered(book(*[1, 0] * 6), LEAST, BEST)[1:], [[6, 1], [6] + [0] * 6])

    def test_alike_books(self):
        self.assertEqual(answered(*[book(2, 2)] * 4, LEAST, BEST)[4:], [[10, 24], [4, 0, 1, 2, 3]])
        self.assertEqual(answered(*[book(1, 1, 1, 1)] * 2, LEAST, BEST)[2:], [[5, 6], [4, 0, 0, 1, 1]])

    def test_sheets_of_no_length(self):
        self.assertEqual(answered(book(0, 0), book(0, 0, 0, 0), LEAST, BEST, LEFT)[2:], [[0, 3], [3, 0, 1, 1], [0]])

    def test_how_many_there_are(self):
        self.assertEqual(last_answer(*[book(*[1] * 6)] * 4, LEAST), [13, 369600])
        self.assertEqual(last_answer(*[book(*[1] * 12)] * 2, LEAST), [13, 924])
        self.assertEqual(last_answer(book(*[1] * 12), *[book(*[1] * 4)] * 3, LEAST), [13, 83160])

    def test_the_first_one_is_not_the_least_book_first(self):
        self.assertEqual(answered(book(9, 1), book(1, 9), LEAST, BEST)[2:], [[11, 2], [2, 1, 0]])
        self.assertEqual(answered(book(9, 1), book(5, 5), book(1, 9), LEAST, BEST)[3:], [[16, 6], [3, 2, 1, 0]])

    def test_with_empty_times_of_either_desk(self):
        before = [book(9, 1), book(1, 9)]
        self.assertEqual(answered(*before, empty(1, 1, 3), LEAST, BEST)[3:], [[13, 2], [2, 1, 0]])
        self.assertEqual(answered(*before, empty(2, 0, 9), LEAST, BEST)[3:], [[19, 2], [2, 0, 1]])
        self.assertEqual(answered(*before, empty(2, 5, 50), LEAST, BEST)[3:], [[56, 2], [2, 1, 0]])

    def test_they_are_asked_of_the_books_as_they_are(self):
        self.assertEqual(answered(book(9, 1), BEST, book(1, 9), BEST, LEAST, empty(2, 0, 9), BEST, LEAST),
                         [[0], [1, 0], [1], [2, 1, 0], [11, 2], [1], [2, 0, 1], [19, 2]])

    def test_least_and_best_do_not_look_at_the_order(self):
        for books in ([], [0], [0, 0], [0, 0, 1], [0, 1, 0]):
            self.assertEqual(answered(book(3, 2, 1, 4), book(1, 5), order(*books), LEAST, BEST)[3:],
                             [[12, 3], [3, 1, 0, 0]])

    def test_left_looks_at_the_order(self):
        before = [book(3, 2, 1, 4), book(1, 5)]
        for books, end in (([], 12), ([1], 12), ([0], 14), ([0, 0], 14), ([0, 1], 14), ([1, 0], 12),
                           ([1, 0, 0], 12), ([0, 0, 1], 14)):
            self.assertEqual(last_answer(*before, order(*books), LEFT), [end])
        self.assertEqual(last_answer(book(9, 1), book(1, 9), order(0), LEFT), [19])

    def test_the_same_as_by_trying_them_all(self):
        chance = random.Random(2)
        for books, empties in some_rooms(chance, 120):
            rows = slow_whole_orders(books)
            ends = [slow_end(books, empties, row) for row in rows]
            best = rows[ends.index(min(ends))]
            begun = list(chance.choice(rows))
            begun = begun[:chance.randint(0, len(begun))]
            left = min(end for row, end in zip(rows, ends) if list(row[:len(begun)]) == begun)
            calls = told(books, empties) + [order(*begun), LEAST, BEST, LEFT]
            self.assertEqual(answered(*calls)[-3:], [[min(ends), len(rows)], [len(best), *best], [left]])

            following = []
            for number in range(len(books)):
                row_begun = begun + [number]
                of_these = [end for row, end in zip(rows, ends) if list(row[:len(row_begun)]) == row_begun]
                following.append(min(of_these, default=-1))
            self.assertEqual(last_answer(*calls, NEXT), [len(books)] + following)


class Next(unittest.TestCase):
    BEFORE = [book(3, 2, 1, 4), book(1, 5)]

    def test_no_book(self):
        self.assertEqual(answered(NEXT, order(), NEXT, empty(1, 0, 9), NEXT), [[0], [1], [0], [1], [0]])

    def test_behind_an_empty_order(self):
        self.assertEqual(last_answer(*self.BEFORE, NEXT), [2, 14, 12])
        self.assertEqual(last_answer(book(3, 2), NEXT), [1, 5])

    def test_behind_a_begun_order(self):
        self.assertEqual(last_answer(*self.BEFORE, order(0), NEXT), [2, 14, 14])
        self.assertEqual(last_answer(book(9, 1), book(5, 5), book(1, 9), order(1), NEXT), [3, 24, -1, 20])

    def test_a_book_with_no_sheet_left(self):
        self.assertEqual(last_answer(*self.BEFORE, order(1), NEXT), [2, 12, -1])
        self.assertEqual(last_answer(*self.BEFORE, order(0, 0), NEXT), [2, -1, 14])

    def test_behind_a_whole_order(self):
        for row in ([0, 0, 1], [0, 1, 0], [1, 0, 0]):
            self.assertEqual(last_answer(*self.BEFORE, order(*row), NEXT), [2, -1, -1])
        self.assertEqual(last_answer(*[book(*[1] * 6)] * 4, order(*[0, 1, 2, 3] * 3), NEXT), [4, -1, -1, -1, -1])

    def test_an_end_of_no_length(self):
        self.assertEqual(last_answer(book(0, 0), book(0, 0, 0, 0), order(0), NEXT), [2, -1, 0])

    def test_with_empty_times_of_either_desk(self):
        before = [book(9, 1), book(1, 9)]
        self.assertEqual(last_answer(*before, NEXT), [2, 19, 11])
        self.assertEqual(last_answer(*before, empty(1, 1, 3), NEXT), [2, 21, 13])
        self.assertEqual(last_answer(*before, empty(2, 0, 9), NEXT), [2, 19, 19])
        self.assertEqual(last_answer(*before, empty(2, 5, 50), NEXT), [2, 60, 56])
        self.assertEqual(last_answer(*before, empty(1, 1, 3), empty(2, 5, 50), order(1), NEXT), [2, 56, -1])

    def test_the_least_of_them_is_what_is_left(self):
        before = [book(4, 2, 6, 1), book(3, 8), book(2, 2, 0, 5, 7, 1), empty(1, 3, 5)]
        for row in ([], [0], [2, 2], [1, 0, 2], [2, 1, 0, 0, 2]):
            left, following = answered(*before, order(*row), LEFT, NEXT)[-2:]
            self.assertEqual([min(end for end in following[1:] if end != -1)], left)


if __name__ == "__main__":
    unittest.main()
