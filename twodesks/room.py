"""The room's calls: what is told to it, and what it answers."""

from twodesks.blocks import block_end, books_by_rule, hanging_place, lead_and_tail, three_numbers
from twodesks.clocks import (
    count_sheets,
    count_whole_orders,
    first_best_order,
    first_standing,
    least_end,
    standing_behind,
    standings_along,
)
from twodesks.workings import more_workings, told_that_can_be_right, untold_can_be_right, verdict


class Room:
    """What one line of calls has told so far."""

    def __init__(self):
        self.forget_all()

    def forget_all(self):
        """All is as before the first call."""
        self.books = []
        self.empties = [[], []]
        self.order = []


def all_within(numbers, least, most):
    """Whether each of the numbers is from the least to the most."""
    return all([least <= number <= most for number in numbers])


def by_twos(numbers):
    """The numbers as pairs."""
    return [(numbers[place], numbers[place + 1]) for place in range(0, len(numbers), 2)]


def as_list(numbers):
    """How a list is answered."""
    return [len(numbers)] + numbers


def standings_of(room):
    """The standings of the room's order: before its first sheet, and behind each one."""
    return standings_along(room.books, room.empties, room.order)


def whole_flag(room):
    """1 if the room's order is whole, else 0."""
    # No book is in the order more often than it has sheets, so to count them is enough.
    return int(len(room.order) == count_sheets(room.books))


def is_book(room, number):
    """Whether there is a book of this number."""
    return 0 <= number < len(room.books)


def has_empty_times(room):
    """Whether a desk has empty times."""
    return room.empties != [[], []]


# Each function below answers one call. It's given the room and the numbers behind the call's own:
# its arguments, then its list without the count.


def add_book(room, numbers):
    """book: one book more."""
    if not 2 <= len(numbers) <= 12 or len(numbers) % 2 == 1 or not all_within(numbers, 0, 1000):
        return [-1]
    sheets = by_twos(numbers)
    if len(room.books) == 4 or count_sheets(room.books) + len(sheets) > 12:
        return [-3]
    room.books.append(sheets)
    return [len(room.books) - 1]


def are_stretches(numbers):
    """Whether these numbers tell a desk's empty times."""
    if len(numbers) > 8 or len(numbers) % 2 == 1 or not all_within(numbers, 0, 100000):
        return False
    end_before = 0
    for start, end in by_twos(numbers):
        if start < end_before or end <= start:
            return False
        end_before = end
    return True


def set_empty(room, numbers):
    """empty: a desk's empty times, instead of those there were."""
    desk = numbers[0]
    if not 1 <= desk <= 2 or not are_stretches(numbers[1:]):
        return [-1]
    stretches = by_twos(numbers[1:])
    room.empties[desk - 1] = stretches
    return [len(stretches)]


def set_order(room, numbers):
    """order: the order."""
    if len(numbers) > 12 or not all_within(numbers, 0, len(room.books) - 1):
        return [-1]
    for book, sheets in enumerate(room.books):
        if numbers.count(book) > len(sheets):
            return [-4]
    room.order = numbers
    return [whole_flag(room)]


def tell_order(room, numbers):
    """now: the order."""
    return as_list(room.order)


def tell_ends(room, numbers):
    """ends: the clocks behind the order, and whether it's whole."""
    first, second = standings_of(room)[-1][1]
    return [first, second, whole_flag(room)]


def tell_times(room, numbers):
    """times: the clocks behind each sheet of the order."""
    answer = [len(room.order)]
    for taken, clocks in standings_of(room)[1:]:
        answer.extend(clocks)
    return answer


def tell_waits(room, numbers):
    """waits: for each sheet of the order how long the second desk waits for it."""
    waits = []
    free = 0
    for taken, clocks in standings_of(room)[1:]:
        waits.append(max(0, clocks[0] - free))
        free = clocks[1]
    return as_list(waits)


def tell_least(room, numbers):
    """least: the least end of all whole orders, and how many there are."""
    end = least_end(room.books, room.empties, first_standing(room.books))
    return [end, count_whole_orders(room.books)]


def tell_best(room, numbers):
    """best: the first of the whole orders with the least end."""
    return as_list(first_best_order(room.books, room.empties))


def tell_left(room, numbers):
    """left: the least end of all whole orders that begin with the order."""
    return [least_end(room.books, room.empties, standings_of(room)[-1])]


def tell_next(room, numbers):
    """next: for each book the least end of all whole orders that begin with the order and it."""
    standing = standings_of(room)[-1]
    ends = []
    for book in range(len(room.books)):
        further = standing_behind(room.books, room.empties, standing, book)
        if further is None:
            ends.append(-1)
        else:
            ends.append(least_end(room.books, room.empties, further))
    return as_list(ends)


def tell_rule(room, numbers):
    """rule: all books by the two-desk rule, and the end, if they're done so."""
    if has_empty_times(room):
        return [-7]
    row = books_by_rule(room.books)
    return as_list(row) + [block_end(room.books, row)]


def tell_block(room, numbers):
    """block: a book's three numbers, its lead, its tail."""
    book = numbers[0]
    if not is_book(room, book):
        return [-1]
    return three_numbers(room.books, book) + lead_and_tail(room.books, book)


def tell_critical(room, numbers):
    """critical: the place of the sheet on which the end of the order hangs."""
    if has_empty_times(room):
        return [-7]
    if len(room.order) == 0:
        return [-5]
    return [hanging_place(room.books, room.order)]


def are_workings(numbers):
    """Whether these numbers tell how many slips are borne, and then workings."""
    borne = numbers[0]
    workings = numbers[1:]
    return 0 <= borne <= 10 and len(workings) <= 30 and all_within(workings, -1000000000, 1000000000)


def judge_workings(room, numbers):
    """judge: whether it's sure, and which numbers can be right."""
    if not are_workings(numbers):
        return [-1]
    borne = numbers[0]
    workings = numbers[1:]
    flags = [verdict(borne, workings), int(untold_can_be_right(borne, workings))]
    return flags + as_list(told_that_can_be_right(borne, workings))


def tell_more(room, numbers):
    """more: how many workings more make it sure at the earliest, and at the latest."""
    if not are_workings(numbers):
        return [-1]
    return more_workings(numbers[0], numbers[1:])


def tell_blocks(room, numbers):
    """blocks: the end, if these books alone are done, one wholly behind the other."""
    for book in numbers:
        if not is_book(room, book) or numbers.count(book) > 1:
            return [-1]
    if has_empty_times(room):
        return [-7]
    return [block_end(room.books, numbers)]


def tell_swap(room, numbers):
    """swap: the clocks behind the order, if a sheet's book and the next one's are exchanged."""
    place = numbers[0]
    if not 0 <= place <= len(room.order) - 2:
        return [-1]
    swapped = list(room.order)
    swapped[place] = room.order[place + 1]
    swapped[place + 1] = room.order[place]
    return list(standings_along(room.books, room.empties, swapped)[-1][1])


def tell_books(room, numbers):
    """books: of each book how many sheets it has, and both times of each."""
    answer = [len(room.books)]
    for sheets in room.books:
        answer.append(len(sheets))
        for sheet in sheets:
            answer.extend(sheet)
    return answer


def clear_all(room, numbers):
    """clear: all is as before the first call."""
    room.forget_all()
    return [0]


# A call's number: what answers it, how many arguments it has, whether a list comes behind them.
CALLS = {
    0: (add_book, 0, True),
    1: (set_empty, 1, True),
    2: (set_order, 0, True),
    3: (tell_order, 0, False),
    4: (tell_ends, 0, False),
    5: (tell_times, 0, False),
    6: (tell_waits, 0, False),
    7: (tell_least, 0, False),
    8: (tell_best, 0, False),
    9: (tell_left, 0, False),
    10: (tell_next, 0, False),
    11: (tell_rule, 0, False),
    12: (tell_block, 1, False),
    13: (tell_critical, 0, False),
    14: (judge_workings, 1, True),
    15: (tell_more, 1, True),
    16: (tell_blocks, 0, True),
    17: (tell_swap, 1, False),
    18: (tell_books, 0, False),
    19: (clear_all, 0, False),
}


def answers(calls):
    """For each of the calls, in order: how many numbers are answered, then these."""
    room = Room()
    given = []
    place = 0
    while place < len(calls):
        answer_call, arguments, has_list = CALLS[calls[place]]
        start = place + 1
        place = start + arguments
        numbers = calls[start:place]
        if has_list:
            start = place + 1
            place = start + calls[place]
            numbers.extend(calls[start:place])
        answer = answer_call(room, numbers)
        given.append(len(answer))
        given.extend(answer)
    return given
