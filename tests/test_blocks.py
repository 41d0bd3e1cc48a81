"""The calls about books as a whole, rule, block and blocks, and about what the end hangs on: critical."""

import random
import unittest
from itertools import permutations

from lines import (
    BOOKS, CRITICAL, ENDS, FAR, RULE, answered, block, blocks, book, empty, last_answer, order, slow_end,
    slow_whole_orders, some_rooms, told,
)

NEVER = [[], []]


def slow_blocks_end(books, row):
    """The end, if the books of this row are done, one wholly behind the other."""
    return slow_end(books, NEVER, [number for number in row for sheet in books[number]])


def slow_block(books, number):
    """A book's three numbers, its lead, its tail."""
    computed = sum(computing for computing, checking in books[number])
    checked = sum(checking for computing, checking in books[number])
    end = slow_blocks_end(books, [number])
    return [computed, checked, end, end - checked, end - computed]


def slow_rule(books):
    """All books by the two-desk rule."""
    leads = [slow_block(books, number)[3] for number in range(len(books))]
    tails = [slow_block(books, number)[4] for number in range(len(books))]
    early = [number for number in range(len(books)) if leads[number] <= tails[number]]
    late = [number for number in range(len(books)) if leads[number] > tails[number]]
    early.sort(key=lambda number: leads[number])
    late.sort(key=lambda number: -tails[number])
    return early + late


def slow_hanging_place(books, row):
    taken = [0] * len(books)
    sheets = []
    for number in row:
        sheets.append(books[number][taken[number]])
        taken[number] += 1
    for place in range(len(sheets)):
        up_to_it = sum(computing for computing, checking in sheets[:place + 1])
        from_it_on = sum(checking for computing, checking in sheets[place:])
        if up_to_it + from_it_on == slow_end(books, NEVER, row):
            return place
    return None


def some_books(chance, how_many):
    """Books, each with an order of some of their sheets."""
    found = []
    for books, empties in some_rooms(chance, how_many):
        row = list(chance.choice(slow_whole_orders(books)))
        found.append((books, row[:chance.randint(0, len(row))] if chance.randint(0, 1) else row))
    return found


class WithEmptyTimes(unittest.TestCase):
    """The refusal that rule, blocks and critical have in common."""

    def test_of_either_desk(self):
        before = [book(3, 2, 1, 4), book(1, 5), order(0, 1, 0)]
        for call in (RULE, blocks(0, 1), blocks(0), blocks(), CRITICAL):
            for empties in ([empty(1, 2, 4)], [empty(2, 2, 4)], [empty(1, 0, 1), empty(2, 9, 10)],
                            [empty(2, 0, 1, 1, 2)], [empty(1, 99999, 100000)]):
                self.assertEqual(last_answer(*before, *empties, call), [-7], call)

    def test_an_answer_again_when_they_are_taken_back(self):
        before = [book(3, 2, 1, 4), book(1, 5), order(0, 1, 0)]
        for call, answer in ((RULE, [2, 1, 0, 12]), (blocks(1, 0), [12]), (CRITICAL, [0])):
            self.assertEqual(answered(*before, call, empty(1, 2, 4), call, empty(1), call)[3:],
                             [answer, [1], [-7], [0], answer])
            self.assertEqual(answered(*before, empty(2, 2, 4), empty(1, 2, 4), empty(2), call, empty(1), call)[5:],
                             [[0], [-7], [0], answer])

    def test_stretches_not_as_told_are_none(self):
        before = [book(3, 2), order(0), empty(1, 5, 5), empty(3, 1, 2)]
        self.assertEqual(answered(*before, RULE, blocks(0), CRITICAL)[4:], [[1, 0, 5], [5], [0]])

    def test_without_books(self):
        self.assertEqual(answered(empty(1, 0, 1), RULE, blocks(), CRITICAL)[1:], [[-7], [-7], [-7]])


class Rule(unittest.TestCase):
    def test_example_of_the_document(self):
        self.assertEqual(answered(book(3, 2, 1, 4), book(1, 5), RULE), [[0], [1], [2, 1, 0, 12]])

    def test_without_books(self):
        self.assertEqual(answered(RULE), [[0, 0]])
        self.assertEqual(answered(empty(1), empty(2), order(), RULE)[3:], [[0, 0]])

    def test_one_book(self):
        self.assertEqual(answered(book(3, 2, 1, 4), RULE), [[0], [1, 0, 9]])

    def test_the_least_lead_first_then_the_greatest_tail(self):
        # Leads 4, 2, 6, 7 and tails 9, 3, 1, 5.
        self.assertEqual(last_answer(book(4, 9), book(2, 3), book(6, 1), book(7, 5), RULE), [4, 1, 0, 3, 2, 21])

    def test_alike_books_by_their_number(self):
        self.assertEqual(last_answer(*[book(2, 2)] * 4, RULE), [4, 0, 1, 2, 3, 10])
        self.assertEqual(last_answer(*[book(5, 2)] * 3, RULE), [3, 0, 1, 2, 17])
        # Of the same lead, though not of the same tail, and the other way round.
        self.assertEqual(last_answer(book(2, 9), book(2, 3), book(1, 1), RULE), [3, 2, 0, 1, 15])
        self.assertEqual(last_answer(book(9, 2), book(3, 2), book(9, 8), RULE), [3, 2, 0, 1, 23])

    def test_a_lead_that_is_equal_to_the_tail_is_among_the_first_ones(self):
        self.assertEqual(last_answer(book(9, 8), book(5, 5), book(7, 8), RULE), [3, 1, 2, 0, 29])
        # Were it among the others, the greater tail would come first.
        self.assertEqual(last_answer(book(6, 6), book(4, 4), RULE), [2, 1, 0, 16])
        self.assertEqual(last_answer(book(9, 7), book(6, 6), RULE), [2, 1, 0, 22])

    def test_by_lead_and_tail_and_not_by_the_sums(self):
        # Book 1 is computed longer than book 0, yet its lead is less.
        self.assertEqual(answered(book(3, 5), book(1, 9, 9, 9), block(0), block(1), RULE)[2:],
                         [[3, 5, 8, 3, 5], [10, 18, 19, 1, 9], [2, 1, 0, 24]])
        # Book 0 is checked longer than book 1, yet its tail is less.
        self.assertEqual(answered(book(9, 9, 9, 1), book(5, 3), block(0), block(1), RULE)[2:],
                         [[18, 10, 19, 9, 1], [5, 3, 8, 5, 3], [2, 1, 0, 24]])

    def test_sheets_of_no_length(self):
        self.assertEqual(last_answer(book(0, 0), book(0, 0, 0, 0), RULE), [2, 0, 1, 0])
        self.assertEqual(last_answer(book(3, 0), book(0, 0), book(0, 3), RULE), [3, 1, 2, 0, 3])
        self.assertEqual(last_answer(book(3, 0), book(4, 0), RULE), [2, 0, 1, 7])

    def test_does_not_look_at_the_order(self):
        before = [book(3, 2, 1, 4), book(1, 5)]
        for row in ([], [0], [0, 0], [1, 0, 0], [0, 1, 0]):
            self.assertEqual(last_answer(*before, order(*row), RULE), [2, 1, 0, 12])

    def test_the_same_as_reckoned_slowly(self):
        for books, row in some_books(random.Random(4), 200):
            rule = slow_rule(books)
            end = slow_blocks_end(books, rule)
            self.assertEqual(last_answer(*told(books, NEVER), order(*row), RULE), [len(books), *rule, end])
            # No other row of whole books is done sooner.
            every = permutations(range(len(books)))
            self.assertEqual(end, min(slow_blocks_end(books, other) for other in every))


class Block(unittest.TestCase):
    def test_example_of_the_document(self):
        self.assertEqual(answered(book(3, 2, 1, 4), book(1, 5), block(0), block(1))[2:],
                         [[4, 6, 9, 3, 5], [1, 5, 6, 1, 5]])

    def test_no_such_book(self):
        for before in ([], [book(3, 2)], [book(3, 2)] * 4, [book(), book(1)]):
            count = len([call for call in before if call == book(3, 2)])
            for number in (count, count + 1, -1, FAR, -FAR - 1):
                self.assertEqual(last_answer(*before, block(number)), [-1])

    def test_no_such_book_with_empty_times(self):
        self.assertEqual(last_answer(book(3, 2), empty(1, 0, 2), block(1)), [-1])

    def test_empty_times_are_left_aside(self):
        for empties in ([], [empty(1, 2, 4)], [empty(2, 0, 99)], [empty(1, 0, 3), empty(2, 1, 2, 5, 7)]):
            self.assertEqual(last_answer(book(3, 2, 1, 4), book(1, 5), *empties, block(0)), [4, 6, 9, 3, 5])
            self.assertEqual(last_answer(book(3, 2, 1, 4), book(1, 5), *empties, block(1)), [1, 5, 6, 1, 5])

    def test_one_sheet_has_its_own_times_as_lead_and_tail(self):
        self.assertEqual(last_answer(book(7, 4), block(0)), [7, 4, 11, 7, 4])
        self.assertEqual(last_answer(book(0, 0), block(0)), [0, 0, 0, 0, 0])
        self.assertEqual(last_answer(book(0, 1000), block(0)), [0, 1000, 1000, 0, 1000])

    def test_six_sheets(self):
        self.assertEqual(last_answer(book(*[1000, 0] * 6), block(0)), [6000, 0, 6000, 6000, 0])
        self.assertEqual(last_answer(book(1, 2, 3, 4, 5, 6, 7, 8, 9, 10, 11, 12), block(0)), [36, 42, 48, 6, 12])

    def test_the_same_as_reckoned_slowly(self):
        for books, row in some_books(random.Random(5), 100):
            for number in range(len(books)):
                self.assertEqual(last_answer(*told(books, NEVER), block(number)), slow_block(books, number))


class Blocks(unittest.TestCase):
    BEFORE = [book(3, 2, 1, 4), book(1, 5), book(6, 1)]

    def test_in_the_order_told(self):
        for row, end in (([0], 9), ([1], 6), ([2], 7), ([0, 1], 14), ([1, 0], 12), ([2, 1], 12), ([1, 2], 8),
                         ([0, 1, 2], 15), ([2, 1, 0], 18), ([1, 0, 2], 13)):
            self.assertEqual(last_answer(*self.BEFORE, blocks(*row)), [end], row)

    def test_none(self):
        self.assertEqual(answered(blocks()), [[0]])
        self.assertEqual(last_answer(*self.BEFORE, blocks()), [0])

    def test_a_book_twice(self):
        for row in ([0, 0], [0, 1, 0], [2, 1, 1], [0, 1, 2, 0], [0] * 30):
            self.assertEqual(last_answer(*self.BEFORE, blocks(*row)), [-1], row)

    def test_no_such_book(self):
        self.assertEqual(answered(blocks(0)), [[-1]])
        for row in ([3], [-1], [0, 3], [3, 0], [0, 1, 2, 3], [0, -1], [FAR], [-FAR - 1], list(range(30))):
            self.assertEqual(last_answer(*self.BEFORE, blocks(*row)), [-1], row)

    def test_not_as_told_comes_ahead_of_empty_times(self):
        for empties in ([empty(1, 2, 4)], [empty(2, 0, 1)]):
            for row in ([0, 0], [3], [-1], [0] * 30):
                self.assertEqual(last_answer(*self.BEFORE, *empties, blocks(*row)), [-1], row)
            self.assertEqual(last_answer(*self.BEFORE, *empties, blocks(1)), [-7])
            self.assertEqual(answered(*empties, blocks(0))[-1:], [[-1]])

    def test_does_not_look_at_the_order(self):
        self.assertEqual(last_answer(*self.BEFORE, order(2, 1, 0), blocks(1, 0)), [12])

    def test_the_same_as_reckoned_slowly(self):
        chance = random.Random(6)
        for books, row in some_books(chance, 100):
            some = chance.sample(range(len(books)), chance.randint(0, len(books)))
            self.assertEqual(last_answer(*told(books, NEVER), order(*row), blocks(*some)),
                             [slow_blocks_end(books, some)])


class Critical(unittest.TestCase):
    def test_example_of_the_document(self):
        self.assertEqual(last_answer(book(3, 2, 1, 4), book(1, 5), order(0, 1, 0), CRITICAL), [0])

    def test_of_an_empty_order(self):
        self.assertEqual(answered(CRITICAL), [[-5]])
        self.assertEqual(last_answer(book(3, 2), CRITICAL), [-5])
        self.assertEqual(last_answer(book(3, 2), order(0), order(), CRITICAL), [-5])

    def test_empty_times_come_ahead_of_an_empty_order(self):
        for desk in (1, 2):
            self.assertEqual(last_answer(empty(desk, 0, 1), CRITICAL), [-7])
            self.assertEqual(answered(book(3, 2), empty(desk, 0, 1), CRITICAL, empty(desk), CRITICAL)[2:],
                             [[-7], [0], [-5]])

    def test_the_first_one_in_the_middle_and_the_last_one(self):
        self.assertEqual(last_answer(book(1, 9, 1, 1, 1, 1), order(0, 0, 0), CRITICAL), [0])
        self.assertEqual(last_answer(book(1, 1, 5, 9, 1, 1), order(0, 0, 0), CRITICAL), [1])
        self.assertEqual(last_answer(book(1, 1, 1, 1, 9, 1), order(0, 0, 0), CRITICAL), [2])
        self.assertEqual(last_answer(*[book(*[9, 1] * 6)] * 2, order(*[0, 1] * 6), CRITICAL), [11])

    def test_of_several_the_first_one(self):
        self.assertEqual(last_answer(book(2, 2, 2, 2, 2, 2), order(0, 0, 0), CRITICAL), [0])
        self.assertEqual(last_answer(book(1, 1, 3, 4, 4, 1), order(0, 0, 0), CRITICAL), [1])
        self.assertEqual(answered(book(3, 2), book(2, 5), order(0, 1), CRITICAL, order(1, 0), CRITICAL)[2:],
                         [[1], [0], [1], [0]])

    def test_sheets_of_no_length(self):
        self.assertEqual(last_answer(book(0, 0, 0, 0), order(0, 0), CRITICAL), [0])
        self.assertEqual(last_answer(book(0, 0, 3, 2, 0, 0), order(0, 0, 0), CRITICAL), [1])
        self.assertEqual(last_answer(book(0, 2, 2, 0), order(0, 0), CRITICAL), [0])
        self.assertEqual(last_answer(book(3, 0, 0, 0), order(0, 0), CRITICAL), [0])
        self.assertEqual(last_answer(book(3, 0, 3, 0), order(0, 0), CRITICAL), [1])

    def test_of_a_begun_order(self):
        before = [book(3, 2, 1, 4), book(7, 5)]
        for row, place in (([0], 0), ([0, 0], 0), ([0, 1], 1), ([1, 0], 0), ([0, 1, 0], 1)):
            self.assertEqual(last_answer(*before, order(*row), CRITICAL), [place], row)

    def test_a_place_and_not_a_book(self):
        self.assertEqual(last_answer(book(9, 1), book(1, 1), order(1, 0), CRITICAL), [1])
        self.assertEqual(last_answer(book(1, 1), book(1, 9), order(1, 0), CRITICAL), [0])

    def test_the_same_as_reckoned_slowly(self):
        for books, row in some_books(random.Random(7), 300):
            answer = slow_hanging_place(books, row) if row else -5
            self.assertEqual(answered(*told(books, NEVER), order(*row), ENDS, CRITICAL, BOOKS)[-2:-1], [[answer]])


if __name__ == "__main__":
    unittest.main()
