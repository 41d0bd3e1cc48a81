"""The calls about workings of a number: judge and more."""

import random
import unittest
from itertools import combinations_with_replacement, product

from lines import FAR, answered, book, empty, judge, last_answer, more, order


def slow_right(borne, workings, numbers):
    """Which of these numbers can be right."""
    return [number for number in numbers if sum(1 for told in workings if told != number) <= borne]


def slow_judge(borne, workings):
    """Asked of the told numbers, and of two that nobody told."""
    told = [number for place, number in enumerate(workings) if number not in workings[:place]]
    untold = [number for number in range(-40, 0) if number not in told][:2]
    right = slow_right(borne, workings, told)
    of_all = slow_right(borne, workings, told + untold)
    sure = 2 if not of_all else int(len(of_all) == 1)
    return [sure, int(len(of_all) > len(right)), len(right), *right]


def slow_more(borne, workings):
    """Tries all further workings; in which order they come is the same."""
    if slow_judge(borne, workings)[0] == 2:
        return [0]
    at_earliest = None
    how_many = 0
    while True:
        numbers = sorted(set(workings)) + list(range(100, 101 + how_many))
        verdicts = [slow_judge(borne, workings + list(further))[0]
                    for further in combinations_with_replacement(numbers, how_many)]
        if at_earliest is None and 1 in verdicts:
            at_earliest = how_many
        if 0 not in verdicts:
            return [1, at_earliest, how_many]
        how_many += 1


class Refusals(unittest.TestCase):
    def refused(self, borne, *workings):
        for call in (judge, more):
            self.assertEqual(answered(call(borne, *workings)), [[-1]], (borne, workings))
            self.assertEqual(last_answer(book(1, 1), empty(1, 0, 1), call(borne, *workings)), [-1])

    def test_slips_out_of_range(self):
        for borne in (-1, 11, 12, FAR, -FAR - 1):
            self.refused(borne)
            self.refused(borne, 5, 5, 6)

    def test_a_working_out_of_range(self):
        for number in (1000000001, -1000000001, FAR, -FAR - 1):
            self.refused(0, number)
            self.refused(1, 5, 5, number)
            self.refused(10, number, 5, *[6] * 28)

    def test_both_out_of_range(self):
        self.refused(11, 1000000001)

    def test_too_many_workings(self):
        self.refused(0, *[4] * 31)
        self.refused(10, *[4] * 31)

    def test_the_farthest_that_are_taken(self):
        for number in (1000000000, -1000000000):
            for borne in (0, 10):
                workings = [number] * (borne + 1)
                self.assertEqual(answered(judge(borne, *workings), more(borne, *workings)),
                                 [[1, 0, 1, number], [1, 0, 0]])

    def test_as_many_workings_as_can_be_handed_in(self):
        self.assertEqual(answered(judge(0, *[4] * 30), more(0, *[4] * 30)), [[1, 0, 1, 4], [1, 0, 0]])
        self.assertEqual(answered(judge(10, *range(30)), more(10, *range(30))), [[2, 0, 0], [0]])
        self.assertEqual(answered(judge(10, *[7] * 20, *range(10, 20)), more(10, *[7] * 20, *range(10, 20))),
                         [[1, 0, 1, 7], [1, 0, 0]])

    def test_empty_times_and_orders_are_nothing_to_them(self):
        before = [book(3, 2), empty(1, 0, 4), empty(2, 1, 5), order(0)]
        self.assertEqual(answered(*before, judge(1, 5, 5, 6), more(1, 5, 6))[4:], [[1, 0, 1, 5], [1, 1, 1]])


class Judge(unittest.TestCase):
    def test_example_of_the_document(self):
        self.assertEqual(answered(judge(1, 5, 5, 6)), [[1, 0, 1, 5]])

    def test_no_workings(self):
        for borne in range(11):
            self.assertEqual(answered(judge(borne)), [[0, 1, 0]])

    def test_no_slips_borne(self):
        self.assertEqual(answered(judge(0, 5), judge(0, 5, 5), judge(0, 5, 6), judge(0, 0), judge(0, 5, 5, 6)),
                         [[1, 0, 1, 5], [1, 0, 1, 5], [2, 0, 0], [1, 0, 1, 0], [2, 0, 0]])

    def test_all_alike(self):
        for borne in range(11):
            for count in range(1, 31):
                sure = int(count > borne)
                self.assertEqual(answered(judge(borne, *[-3] * count)), [[sure, 1 - sure, 1, -3]])

    def test_all_unlike(self):
        self.assertEqual(answered(judge(2, 8, 6, 7)), [[0, 0, 3, 8, 6, 7]])
        self.assertEqual(answered(judge(2, 8, 6)), [[0, 1, 2, 8, 6]])
        self.assertEqual(answered(judge(2, 8, 6, 7, 9)), [[2, 0, 0]])
        self.assertEqual(answered(judge(1, 8, 6)), [[0, 0, 2, 8, 6]])

    def test_just_as_many_differ_as_are_borne(self):
        for borne in range(11):
            workings = [1] * 12 + list(range(2, 2 + borne))
            self.assertEqual(answered(judge(borne, *workings)), [[1, 0, 1, 1]])
            self.assertEqual(answered(judge(borne, *workings, 99)), [[2, 0, 0]])

    def test_a_number_that_nobody_told(self):
        self.assertEqual(answered(judge(3, 5, 5, 6), judge(2, 5, 5, 6), judge(3, 5, 5, 5), judge(2, 5, 5, 5)),
                         [[0, 1, 2, 5, 6], [0, 0, 2, 5, 6], [0, 1, 1, 5], [1, 0, 1, 5]])

    def test_not_sure_of_two(self):
        self.assertEqual(answered(judge(2, 5, 5, 6, 6), judge(2, 5, 6, 6), judge(1, 5, 5, 6, 6)),
                         [[0, 0, 2, 5, 6], [0, 0, 2, 5, 6], [2, 0, 0]])

    def test_the_told_ones_as_they_first_come(self):
        self.assertEqual(answered(judge(5, 9, 2, 9, 7, 2)), [[0, 1, 3, 9, 2, 7]])
        self.assertEqual(answered(judge(10, 3, -1, 3, 0, 2, 0, -1)), [[0, 1, 4, 3, -1, 0, 2]])
        self.assertEqual(answered(judge(3, 1, 8, 2, 8, 2)), [[0, 0, 2, 8, 2]])
        self.assertEqual(answered(judge(10, *range(10, 0, -1))), [[0, 1, 10, *range(10, 0, -1)]])

    def test_the_same_as_reckoned_slowly(self):
        chance = random.Random(8)
        for turn in range(400):
            workings = [chance.randint(-2, chance.choice([0, 3])) for number in range(chance.randint(0, 30))]
            workings = [1] * chance.randint(0, 30 - len(workings)) + workings
            chance.shuffle(workings)
            borne = chance.randint(0, 10)
            self.assertEqual(answered(judge(borne, *workings)), [slow_judge(borne, workings)], (borne, workings))


class More(unittest.TestCase):
    def test_examples_of_the_document(self):
        self.assertEqual(answered(more(1, 5, 6), more(2)), [[1, 1, 1], [1, 3, 5]])

    def test_no_workings(self):
        for borne in range(11):
            self.assertEqual(answered(more(borne)), [[1, borne + 1, 2 * borne + 1]])

    def test_already_sure(self):
        self.assertEqual(answered(more(0, 5), more(1, 5, 5), more(1, 5, 5, 6), more(2, 5, 5, 5), more(10, *[5] * 30)),
                         [[1, 0, 0]] * 5)

    def test_too_many_slips(self):
        self.assertEqual(answered(more(0, 5, 6), more(1, 5, 6, 7), more(1, 5, 5, 6, 6), more(2, 1, 2, 3, 4)), [[0]] * 4)

    def test_the_last_slips_that_are_borne(self):
        # Both can be right, each with as many slips as are borne: the next one tells which, or neither.
        for borne in range(1, 11):
            self.assertEqual(answered(more(borne, *[5] * borne, *[6] * borne)), [[1, 1, 1]])

    def test_a_begun_one(self):
        self.assertEqual(answered(more(2, 5), more(2, 5, 5), more(2, 5, 6), more(2, 5, 5, 6), more(2, 5, 6, 7)),
                         [[1, 2, 4], [1, 1, 3], [1, 2, 3], [1, 1, 2], [1, 1, 1]])
        self.assertEqual(answered(more(10, *[5] * 10), more(10, *[5] * 9, 6), more(10, *range(10))),
                         [[1, 1, 11], [1, 2, 11], [1, 2, 3]])

    def test_against_all_further_workings(self):
        for borne in range(3):
            for count in range(5):
                for workings in product((5, 6, 7), repeat=count):
                    # Which number is which is nothing to it, so the first one told may always be 5.
                    if workings[:1] in ((), (5,)):
                        self.assertEqual(answered(more(borne, *workings)), [slow_more(borne, list(workings))],
                                         (borne, workings))

    def test_against_all_further_workings_for_three_slips(self):
        for workings in ([], [1], [1, 1], [1, 2], [1, 1, 2], [1, 2, 3], [1, 2, 3, 4], [1, 1, 2, 2], [1, 1, 1, 2, 2],
                         [2, 1, 2, 1, 2, 1], [1, 1, 1, 2, 3], [1, 1, 1, 1], [1, 2, 3, 4, 5]):
            self.assertEqual(answered(more(3, *workings)), [slow_more(3, workings)], workings)


if __name__ == "__main__":
    unittest.main()
