"""A line of calls: how it's handed in, how it's answered, what stays as it was."""

import random
import unittest

from lines import (
    BEST, BOOKS, CLEAR, CRITICAL, ENDS, LEAST, LEFT, NEXT, NOW, RULE, TIMES, WAITS, answered, apart, block, blocks,
    book, empty, judge, line_of, more, order, swap,
)

from twodesks.room import answers

EVERY_KIND = [
    BEST, NOW, book(3, 2, 1, 4), ENDS, order(0), LEFT, book(1, 5), TIMES, order(0, 1, 0), empty(1, 2, 4), WAITS,
    LEAST, book(), order(1, 1), empty(3), ENDS, order(9), empty(2, 1, 1), LEFT, NOW, empty(1), ENDS, order(), LEFT,
    NEXT, RULE, CRITICAL, order(1, 0, 0), CRITICAL, swap(0), judge(1, 5, 6), empty(2, 1, 2), blocks(0), block(0),
    more(1), swap(2), empty(2), blocks(1, 0), BOOKS, CLEAR, BOOKS, more(0, 1, 2), judge(11), NEXT, NOW,
]
ITS_ANSWERS = [
    [0], [0], [0], [0, 0, 0], [0], [9], [1], [1, 3, 5], [1], [1], [3, 5, 0, 0],
    [12, 3], [-1], [-4], [-1], [7, 16, 1], [-1], [-1], [16], [3, 0, 1, 0], [0], [5, 14, 1], [0], [12],
    [2, 14, 12], [2, 1, 0, 12], [-5], [1], [0], [5, 14], [0, 0, 2, 5, 6], [1], [-7], [4, 6, 9, 3, 5], [1, 2, 3],
    [-1], [0], [12], [2, 2, 3, 2, 1, 4, 1, 1, 5], [0], [0], [0], [-1], [0], [0],
]


class Line(unittest.TestCase):
    def test_each_answer_stands_behind_its_count(self):
        self.assertEqual(answers([0, 4, 3, 2, 1, 4, 3, 2, 2, 0, 0, 4, 7, 2, 1, 5, 1, 2, 0]),
                         [1, 0, 1, 0, 1, 1, 3, 4, 9, 1, 2, 9, 1, 1, -1, 1, 0])

    def test_the_examples_of_the_document(self):
        first = [book(3, 2, 1, 4), book(1, 5), LEAST, BEST, RULE, block(0), order(0, 1, 0), ENDS, TIMES, WAITS,
                 CRITICAL, NEXT, empty(1, 2, 4), ENDS]
        self.assertEqual(answered(*first), [
            [0], [1], [12, 3], [3, 1, 0, 0], [2, 1, 0, 12], [4, 6, 9, 3, 5], [1], [5, 14, 1], [3, 3, 5, 4, 10, 5, 14],
            [3, 3, 0, 0], [0], [2, -1, -1], [1], [7, 16, 1],
        ])
        second = [judge(1, 5, 5, 6), more(1, 5, 6), more(2)]
        self.assertEqual(answered(*second), [[1, 0, 1, 5], [1, 1, 1], [1, 3, 5]])

    def test_each_of_the_later_calls_stands_as_told(self):
        line = [0, 4, 3, 2, 1, 4, 0, 2, 1, 5, 2, 2, 0, 1, 10, 11, 12, 0, 13, 14, 1, 3, 5, 5, 6, 15, 2, 0, 16, 2, 1, 0,
                17, 0, 18, 19]
        self.assertEqual(answers(line), [
            1, 0, 1, 1, 1, 0, 3, 2, 14, -1, 4, 2, 1, 0, 12, 5, 4, 6, 9, 3, 5, 1, 0, 4, 1, 0, 1, 5, 3, 1, 3, 5, 1, 12,
            2, 4, 8, 9, 2, 2, 3, 2, 1, 4, 1, 1, 5, 1, 0,
        ])

    def test_calls_in_any_order(self):
        self.assertEqual(answered(*EVERY_KIND), ITS_ANSWERS)

    def test_what_is_handed_in_stays_as_it_was(self):
        line = line_of(EVERY_KIND)
        copy = list(line)
        answers(line)
        self.assertEqual(line, copy)

    def test_nothing_is_kept_from_one_time_to_the_next(self):
        line = line_of(EVERY_KIND)
        first = answers(line)
        self.assertEqual(apart(first), ITS_ANSWERS)
        first.append(7)
        self.assertEqual(apart(answers(line)), ITS_ANSWERS)
        self.assertEqual(answers(line_of([NOW, ENDS, LEAST])), [1, 0, 3, 0, 0, 1, 2, 0, 1])

    def test_asking_changes_nothing(self):
        before = [book(3, 2, 1, 4), book(1, 5), empty(2, 1, 3), order(0, 1)]
        asked = [NOW, ENDS, TIMES, WAITS, LEAST, BEST, LEFT, NEXT, RULE, block(1), CRITICAL, judge(1, 5, 6),
                 more(1, 5, 6), blocks(1, 0), swap(0), BOOKS]
        for told_before in (before, [before[0], before[1], before[3]], []):
            behind = len(told_before)
            once = answered(*told_before, *asked)[behind:]
            again = answered(*told_before, *asked, *reversed(asked), *asked)[behind:]
            self.assertEqual(again, once + once[::-1] + once)
            for call, answer in zip(asked, once):
                self.assertEqual(answered(*told_before, call, *asked)[behind:], [answer] + once, call)

    def test_answers_are_whole_numbers_in_a_list(self):
        given = answers(line_of(EVERY_KIND))
        self.assertIs(type(given), list)
        self.assertEqual({type(number) for number in given}, {int})

    def test_the_longest_line(self):
        chance = random.Random(3)
        books = [book(*[chance.randint(0, 1000) for time in range(6)]) for number in range(4)]
        empties = [empty(desk, 10, 300, 300, 1500, 2000, 2500, 4000, 9000) for desk in (1, 2)]
        refused = [order(*[0] * 30)] * 200
        calls = books + empties + [BEST] * 12 + refused + [order(*[0, 1, 2, 3] * 3)]
        calls += [TIMES] * (400 - len(calls))
        given = answered(*calls)
        self.assertEqual(len(given), 400)
        self.assertEqual(given[6:18], [given[6]] * 12)
        self.assertEqual(given[18:218], [[-1]] * 200)
        self.assertEqual([len(answer) for answer in given[219:]], [25] * 181)

    def test_four_hundred_of_all_kinds(self):
        half = [call for call in EVERY_KIND if call not in (LEAST, BEST, LEFT, NEXT)]
        answers_of_half = answered(*half)
        calls = (half + [CLEAR]) * (400 // (len(half) + 1))
        calls += [CLEAR] * (400 - len(calls))
        given = answered(*calls)
        self.assertEqual(len(given), 400)
        for start in range(0, 400 - len(half), len(half) + 1):
            self.assertEqual(given[start:start + len(half)], answers_of_half)

    def test_twelve_searches(self):
        books = [book(5, 2, 0, 9), book(4, 4, 1, 3, 6, 0), book(2, 8), book(7, 1, 3, 3, 0, 0, 9, 2, 1, 1, 4, 6)]
        before = books + [empty(1, 3, 9, 20, 22), empty(2, 11, 13), order(3, 0)]
        each = answered(*before, LEAST, BEST, LEFT, NEXT)[len(before):]
        self.assertEqual(answered(*before, *[LEAST, BEST, LEFT, NEXT] * 3)[len(before):], each * 3)
        self.assertEqual([each[2][0]], [min(end for end in each[3][1:] if end > 0)])


if __name__ == "__main__":
    unittest.main()
