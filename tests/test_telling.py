"""The calls that tell the room something, book, empty, order and clear, and what has been told: books."""

import unittest

from lines import (
    BEST, BOOKS, CLEAR, CRITICAL, ENDS, FAR, LEAST, LEFT, NEXT, NOW, RULE, TIMES, WAITS, answered, block, blocks, book,
    empty, last_answer, order, swap,
)

ASKED = [NOW, ENDS, TIMES, WAITS, LEAST, BEST, LEFT, NEXT, RULE, block(0), CRITICAL, blocks(0), swap(0), BOOKS]


class Refusals(unittest.TestCase):
    def refused(self, before, call, refusal):
        """The call is answered by the refusal alone, and nothing changes by it."""
        asked = answered(*before, *ASKED)[len(before):]
        answer, *asked_behind = answered(*before, call, *ASKED)[len(before):]
        self.assertEqual(answer, [refusal], call)
        self.assertEqual(asked_behind, asked, call)

    def test_book_not_as_told(self):
        for before in ([], [book(3, 2, 1, 4), order(0)]):
            for sheets in ([], [1], [1, 2, 3], [1] * 11, [1] * 13, [1] * 14, [1] * 30,
                           [-1, 2], [2, -1], [1001, 2], [2, 1001], [1, 1, 1, 1, 1, 1001],
                           [FAR, 0], [0, -FAR - 1]):
                self.refused(before, book(*sheets), -1)

    def test_book_too_many(self):
        self.refused([book(1, 1)] * 4, book(1, 1), -3)
        self.refused([book(1, 1)] * 4, book(0, 0), -3)
        self.refused([book(*[1] * 12), book(*[2] * 12)], book(1, 1), -3)
        self.refused([book(*[1] * 12), book(*[2] * 10)], book(1, 1, 1, 1), -3)
        self.refused([book(*[1] * 8)] * 3, book(1, 1), -3)

    def test_book_not_as_told_comes_ahead_of_too_many(self):
        for before in ([book(1, 1)] * 4, [book(*[1] * 12)] * 2):
            for sheets in ([], [1], [1] * 14, [1001, 1], [-1, 1], [1] * 30):
                self.refused(before, book(*sheets), -1)

    def test_empty_no_such_desk(self):
        for desk in (0, 3, -1, -2, FAR, -FAR - 1):
            self.refused([book(2, 2), empty(1, 0, 1), order(0)], empty(desk, 2, 4), -1)
            self.refused([book(2, 2), empty(2, 0, 1), order(0)], empty(desk), -1)

    def test_empty_stretches_not_as_told(self):
        for stretches in ([1], [1, 2, 3], [2, 2], [0, 0], [3, 2], [1, 0],
                          [1, 3, 2, 4], [0, 5, 4, 6], [4, 6, 0, 2], [1, 3, 3, 3], [1, 3, 5, 4],
                          [-1, 2], [-2, -1], [5, 100001], [100000, 100001], [0, FAR], [-FAR - 1, 0],
                          [0, 1, 2, 3, 4, 5, 6, 7, 8, 9], [0, 1, 2, 3, 4, 5, 6, 7, 8],
                          list(range(30))):
            for desk in (1, 2):
                self.refused([book(2, 2), empty(desk, 1, 5), order(0)], empty(desk, *stretches), -1)

    def test_order_not_as_told(self):
        self.refused([], order(0), -1)
        self.refused([], order(-1), -1)
        six = book(*[1] * 12)
        for books in ([2], [0, 2], [-1], [0, 1, -1], [FAR], [-FAR - 1], [0] * 6 + [1] * 7, [0] * 13, [0] * 30):
            self.refused([six, six, order(1, 0)], order(*books), -1)

    def test_order_with_a_book_too_often(self):
        before = [book(3, 2, 1, 4), book(1, 5), order(1, 0)]
        for books in ([1, 1], [0, 0, 0], [0, 0, 1, 1], [1, 0, 1], [0] * 12):
            self.refused(before, order(*books), -4)

    def test_order_not_as_told_comes_ahead_of_too_often(self):
        before = [book(3, 2, 1, 4), book(1, 5), order(1, 0)]
        for books in ([1, 1, 2], [0, 0, 0, -1], [0] * 13):
            self.refused(before, order(*books), -1)


class Book(unittest.TestCase):
    def test_answers_its_number(self):
        self.assertEqual(answered(*[book(1, 1)] * 4), [[0], [1], [2], [3]])

    def test_a_refused_one_has_no_number(self):
        self.assertEqual(answered(book(1, 1), book(), book(2, 2), book(3), book(4, 4)), [[0], [-1], [1], [-1], [2]])

    def test_as_many_sheets_as_may_be(self):
        self.assertEqual(answered(book(*[1] * 12), book(*[1] * 12)), [[0], [1]])
        self.assertEqual(answered(*[book(*[1] * 6)] * 4), [[0], [1], [2], [3]])
        self.assertEqual(last_answer(book(*[1] * 12), book(*[1] * 14), book(*[1] * 12)), [1])

    def test_one_that_fits_behind_one_that_did_not(self):
        self.assertEqual(answered(book(*[1] * 12), book(*[1] * 10), book(1, 1, 1, 1), book(1, 1)),
                         [[0], [1], [-3], [2]])

    def test_shortest_and_longest(self):
        self.assertEqual(answered(book(0, 1000, 1000, 0), order(0, 0), TIMES),
                         [[0], [1], [2, 0, 1000, 1000, 1000]])

    def test_its_sheets_are_in_their_order(self):
        self.assertEqual(answered(book(1, 2, 30, 4, 5, 60), order(0, 0, 0), TIMES)[2],
                         [3, 1, 3, 31, 35, 36, 96])


class Empty(unittest.TestCase):
    def test_answers_how_many_stretches(self):
        self.assertEqual(answered(empty(1), empty(1, 2, 4), empty(2, 0, 1, 1, 3), empty(2, 1, 2, 3, 4, 5, 6),
                                  empty(1, 0, 1, 1, 2, 5, 9, 99999, 100000)), [[0], [1], [2], [3], [4]])

    def test_each_desk_has_its_own(self):
        self.assertEqual(last_answer(book(3, 2), empty(1, 1, 5), order(0), ENDS), [7, 9, 1])
        self.assertEqual(last_answer(book(3, 2), empty(2, 1, 5), order(0), ENDS), [3, 7, 1])
        self.assertEqual(last_answer(book(3, 2), empty(1, 1, 5), empty(2, 8, 9), order(0), ENDS), [7, 10, 1])

    def test_new_ones_take_the_place_of_those_before(self):
        self.assertEqual(last_answer(book(3, 2), empty(1, 0, 2, 3, 9), empty(1, 1, 2), order(0), ENDS), [4, 6, 1])
        self.assertEqual(last_answer(book(3, 2), empty(1, 0, 2), empty(2, 0, 9), empty(1), order(0), ENDS), [3, 11, 1])

    def test_none(self):
        self.assertEqual(last_answer(book(3, 2), empty(1, 0, 2), empty(2, 0, 9), empty(1), empty(2), order(0), ENDS),
                         [3, 5, 1])

    def test_the_farthest(self):
        self.assertEqual(last_answer(book(3, 2), empty(1, 0, 100000), order(0), ENDS), [100003, 100005, 1])


class Order(unittest.TestCase):
    def test_answers_whether_it_is_whole(self):
        told = [book(3, 2, 1, 4), book(1, 5)]
        for books, whole in (([], 0), ([0], 0), ([1, 0], 0), ([0, 0], 0), ([0, 0, 1], 1), ([1, 0, 0], 1)):
            self.assertEqual(last_answer(*told, order(*books)), [whole])
            self.assertEqual(last_answer(*told, order(*books), NOW), [len(books)] + books)

    def test_without_books(self):
        self.assertEqual(answered(order(), NOW), [[1], [0]])

    def test_of_twelve(self):
        told = [book(*[1] * 12), book(*[1] * 12)]
        self.assertEqual(last_answer(*told, order(*[0, 1] * 6)), [1])
        self.assertEqual(last_answer(*told, order(*[0, 1] * 5)), [0])

    def test_takes_the_place_of_the_one_before(self):
        told = [book(3, 2, 1, 4), book(1, 5)]
        self.assertEqual(last_answer(*told, order(0, 1, 0), order(1), NOW), [1, 1])
        self.assertEqual(last_answer(*told, order(0, 1, 0), order(), NOW), [0])

    def test_stays_as_it_was_behind_a_refusal(self):
        told = [book(3, 2, 1, 4), book(1, 5), order(0, 1)]
        self.assertEqual(answered(*told, order(1, 1), NOW, order(5), NOW)[3:], [[-4], [2, 0, 1], [-1], [2, 0, 1]])

    def test_stays_told_when_a_book_comes(self):
        self.assertEqual(answered(book(3, 2), order(0), ENDS, book(1, 1), NOW, ENDS, order(0, 1), ENDS),
                         [[0], [1], [3, 5, 1], [1], [1, 0], [3, 5, 0], [1], [4, 6, 1]])

    def test_stays_told_when_empty_times_change(self):
        self.assertEqual(answered(book(3, 2), order(0), empty(1, 1, 2), NOW, ENDS, empty(2, 4, 9), NOW, ENDS),
                         [[0], [1], [1], [1, 0], [4, 6, 1], [1], [1, 0], [4, 11, 1]])


class Books(unittest.TestCase):
    def test_none(self):
        self.assertEqual(answered(BOOKS, empty(1, 0, 4), order(), BOOKS), [[0], [1], [1], [0]])

    def test_several(self):
        self.assertEqual(answered(book(3, 2, 1, 4), BOOKS, book(1, 5), BOOKS, book(0, 1000), BOOKS)[1::2],
                         [[1, 2, 3, 2, 1, 4], [2, 2, 3, 2, 1, 4, 1, 1, 5], [3, 2, 3, 2, 1, 4, 1, 1, 5, 1, 0, 1000]])

    def test_as_many_as_may_be(self):
        six = list(range(12))
        self.assertEqual(last_answer(book(*six), book(*six), BOOKS), [2, 6, *six, 6, *six])
        three = [7, 8, 9, 10, 11, 12]
        self.assertEqual(last_answer(*[book(*three)] * 4, BOOKS), [4] + [3, *three] * 4)

    def test_a_refused_one_is_not_in_it(self):
        before = [book(1, 1), book(), book(2, 1001), book(3), book(4, 4)]
        self.assertEqual(last_answer(*before, BOOKS), [2, 1, 1, 1, 1, 4, 4])
        self.assertEqual(last_answer(*before, book(5, 5), book(6, 6), book(7, 7), BOOKS),
                         [4, 1, 1, 1, 1, 4, 4, 1, 5, 5, 1, 6, 6])

    def test_order_and_empty_times_are_nothing_to_it(self):
        self.assertEqual(last_answer(book(3, 2, 1, 4), empty(1, 0, 4), empty(2, 1, 2), order(0, 0), BOOKS),
                         [1, 2, 3, 2, 1, 4])


class Clear(unittest.TestCase):
    FULL = [book(3, 2, 1, 4), book(1, 5), empty(1, 2, 4), empty(2, 0, 9, 9, 12), order(0, 1, 0)]

    def test_answers_nought(self):
        self.assertEqual(answered(CLEAR, CLEAR), [[0], [0]])
        self.assertEqual(last_answer(*self.FULL, CLEAR), [0])

    def test_all_is_as_before_the_first_call(self):
        self.assertEqual(answered(*self.FULL, CLEAR, *ASKED)[len(self.FULL) + 1:], answered(*ASKED))

    def test_what_is_told_behind_it(self):
        asked = [*self.FULL, *ASKED, book(7, 7), empty(1), order(2), *ASKED]
        self.assertEqual(answered(*self.FULL, order(1), CLEAR, *asked)[len(self.FULL) + 2:], answered(*asked))

    def test_each_thing_for_itself(self):
        self.assertEqual(answered(book(1, 1), CLEAR, book(3, 2), BOOKS), [[0], [0], [0], [1, 1, 3, 2]])
        self.assertEqual(last_answer(empty(1, 0, 9), CLEAR, book(3, 2), order(0), ENDS), [3, 5, 1])
        self.assertEqual(last_answer(empty(2, 0, 9), CLEAR, book(3, 2), order(0), RULE), [1, 0, 5])
        self.assertEqual(answered(book(3, 2), order(0), CLEAR, NOW, book(3, 2), NOW)[3:], [[0], [0], [0]])

    def test_as_many_books_as_may_be_once_more(self):
        four = [book(1, 1, 1, 1, 1, 1)] * 4
        self.assertEqual(answered(*four, book(1, 1), CLEAR, *four, book(1, 1)),
                         [[0], [1], [2], [3], [-3], [0], [0], [1], [2], [3], [-3]])


if __name__ == "__main__":
    unittest.main()
