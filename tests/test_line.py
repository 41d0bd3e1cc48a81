"""A line of calls: how it's handed in, how it's answered, what stays as it was."""

import random
import unittest

from lines import (
    BEST, ENDS, LEAST, LEFT, NOW, TIMES, WAITS, answered, apart, book, empty, line_of, order,
)

from twodesks.room import answers

EVERY_KIND = [
    BEST, NOW, book(3, 2, 1, 4), ENDS, order(0), LEFT, book(1, 5), TIMES, order(0, 1, 0), empty(1, 2, 4), WAITS,
    LEAST, book(), order(1, 1), empty(3), ENDS, order(9), empty(2, 1, 1), LEFT, NOW, empty(1), ENDS, order(), LEFT,
]
ITS_ANSWERS = [
    [0], [0], [0], [0, 0, 0], [0], [9], [1], [1, 3, 5], [1], [1], [3, 5, 0, 0],
    [12, 3], [-1], [-4], [-1], [7, 16, 1], [-1], [-1], [16], [3, 0, 1, 0], [0], [5, 14, 1], [0], [12],
]


class Line(unittest.TestCase):
    def test_each_answer_stands_behind_its_count(self):
        self.assertEqual(answers([0, 4, 3, 2, 1, 4, 3, 2, 2, 0, 0, 4, 7, 2, 1, 5, 1, 2, 0]),
                         [1, 0, 1, 0, 1, 1, 3, 4, 9, 1, 2, 9, 1, 1, -1, 1, 0])

    def test_calls_in_any_order(self):
        self.assertEqual(answered(*EVERY_KIND), ITS_ANSWERS)

    def test_what_is_handed_in_stays_as_it_was(self):
        line = line_of(EVERY_KIND)
        copy = list(line)
        answers(line)
        self.assertEqual(line, copy)

    def test_nothing_is_kept_from_one_time_to_the_next(self):
        line = line_of(EVERY_KIND)
        first = answers(line)
        self.assertEqual(apart(first), ITS_ANSWERS)
        first.append(7)
        self.assertEqual(apart(answers(line)), ITS_ANSWERS)
        self.assertEqual(answers(line_of([NOW, ENDS, LEAST])), [1, 0, 3, 0, 0, 1, 2, 0, 1])

    def test_asking_changes_nothing(self):
        before = [book(3, 2, 1, 4), book(1, 5), empty(2, 1, 3), order(0, 1)]
        asked = [NOW, ENDS, TIMES, WAITS, LEAST, BEST, LEFT]
        once = answered(*before, *asked)[len(before):]
        again = answered(*before, *asked, *reversed(asked), *asked)[len(before):]
        self.assertEqual(again, once + once[::-1] + once)

    def test_answers_are_whole_numbers_in_a_list(self):
        given = answers(line_of(EVERY_KIND))
        self.assertIs(type(given), list)
        self.assertEqual({type(number) for number in given}, {int})

    def test_the_longest_line(self):
        chance = random.Random(3)
        books = [book(*[chance.randint(0, 1000) for time in range(6)]) for number in range(4)]
        empties = [empty(desk, 10, 300, 300, 1500, 2000, 2500, 4000, 9000) for desk in (1, 2)]
        refused = [order(*[0] * 30)] * 200
        calls = books + empties + [BEST] * 12 + refused + [order(*[0, 1, 2, 3] * 3)]
        calls += [TIMES] * (400 - len(calls))
        given = answered(*calls)
        self.assertEqual(len(given), 400)
        self.assertEqual(given[6:18], [given[6]] * 12)
        self.assertEqual(given[18:218], [[-1]] * 200)
        self.assertEqual([len(answer) for answer in given[219:]], [25] * 181)


if __name__ == "__main__":
    unittest.main()
