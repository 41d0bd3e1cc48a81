"""The room's calls: what is told to it, and what it answers."""

from twodesks.clocks import (
    count_sheets,
    count_whole_orders,
    first_best_order,
    first_standing,
    least_end,
    standings_along,
)


class Room:
    """What one line of calls has told so far."""

    def __init__(self):
        self.books = []
        self.empties = [[], []]
        self.order = []


def all_within(numbers, least, most):
    """Whether each of the numbers is from the least to the most."""
    return all([least <= number <= most for number in numbers])


def by_twos(numbers):
    """The numbers as pairs."""
    return [(numbers[place], numbers[place + 1]) for place in range(0, len(numbers), 2)]


def as_list(numbers):
    """How a list is answered."""
    return [len(numbers)] + numbers


def standings_of(room):
    """The standings of the room's order: before its first sheet, and behind each one."""
    return standings_along(room.books, room.empties, room.order)


def whole_flag(room):
    """1 if the room's order is whole, else 0."""
    # No book is in the order more often than it has sheets, so to count them is enough.
    return int(len(room.order) == count_sheets(room.books))


# Each function below answers one call. It's given the room and the numbers behind the call's own:
# its arguments, then its list without the count.


def add_book(room, numbers):
    """book: one book more."""
    if not 2 <= len(numbers) <= 12 or len(numbers) % 2 == 1 or not all_within(numbers, 0, 1000):
        return [-1]
    sheets = by_twos(numbers)
    if len(room.books) == 4 or count_sheets(room.books) + len(sheets) > 12:
        return [-3]
    room.books.append(sheets)
    return [len(room.books) - 1]


def are_stretches(numbers):
    """Whether these numbers tell a desk's empty times."""
    if len(numbers) > 8 or len(numbers) % 2 == 1 or not all_within(numbers, 0, 100000):
        return False
    end_before = 0
    for start, end in by_twos(numbers):
        if start < end_before or end <= start:
            return False
        end_before = end
    return True


def set_empty(room, numbers):
    """empty: a desk's empty times, instead of those there were."""
    desk = numbers[0]
    if not 1 <= desk <= 2 or not are_stretches(numbers[1:]):
        return [-1]
    stretches = by_twos(numbers[1:])
    room.empties[desk - 1] = stretches
    return [len(stretches)]


def set_order(room, numbers):
    """order: the order."""
    if len(numbers) > 12 or not all_within(numbers, 0, len(room.books) - 1):
        return [-1]
    for book, sheets in enumerate(room.books):
        if numbers.count(book) > len(sheets):
            return [-4]
    room.order = numbers
    return [whole_flag(room)]


def tell_order(room, numbers):
    """now: the order."""
    return as_list(room.order)


def tell_ends(room, numbers):
    """ends: the clocks behind the order, and whether it's whole."""
    first, second = standings_of(room)[-1][1]
    return [first, second, whole_flag(room)]


def tell_times(room, numbers):
    """times: the clocks behind each sheet of the order."""
    answer = [len(room.order)]
    for taken, clocks in standings_of(room)[1:]:
        answer.extend(clocks)
    return answer


def tell_waits(room, numbers):
    """waits: for each sheet of the order how long the second desk waits for it."""
    waits = []
    free = 0
    for taken, clocks in standings_of(room)[1:]:
        waits.append(max(0, clocks[0] - free))
        free = clocks[1]
    return as_list(waits)


def tell_least(room, numbers):
    """least: the least end of all whole orders, and how many there are."""
    end = least_end(room.books, room.empties, first_standing(room.books))
    return [end, count_whole_orders(room.books)]


def tell_best(room, numbers):
    """best: the first of the whole orders with the least end."""
    return as_list(first_best_order(room.books, room.empties))


def tell_left(room, numbers):
    """left: the least end of all whole orders that begin with the order."""
    return [least_end(room.books, room.empties, standings_of(room)[-1])]


# A call's number: what answers it, how many arguments it has, whether a list comes behind them.
CALLS = {
    0: (add_book, 0, True),
    1: (set_empty, 1, True),
    2: (set_order, 0, True),
    3: (tell_order, 0, False),
    4: (tell_ends, 0, False),
    5: (tell_times, 0, False),
    6: (tell_waits, 0, False),
    7: (tell_least, 0, False),
    8: (tell_best, 0, False),
    9: (tell_left, 0, False),
}


def answers(calls):
    """For each of the calls, in order: how many numbers are answered, then these."""
    room = Room()
    given = []
    place = 0
    while place < len(calls):
        answer_call, arguments, has_list = CALLS[calls[place]]
        start = place + 1
        place = start + arguments
        numbers = calls[start:place]
        if has_list:
            start = place + 1
            place = start + calls[place]
            numbers.extend(calls[start:place])
        answer = answer_call(room, numbers)
        given.append(len(answer))
        given.extend(answer)
    return given
