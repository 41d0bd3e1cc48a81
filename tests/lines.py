"""What the tests share: calls as they're handed in, answers taken apart, and a slow way to the same ends."""

from itertools import permutations

from twodesks.room import answers

NOW, ENDS, TIMES, WAITS, LEAST, BEST, LEFT, NEXT, RULE = [[number] for number in range(3, 12)]
CRITICAL, BOOKS, CLEAR = [13], [18], [19]
FAR = 9223372036854775807


def book(*sheets):
    return [0, len(sheets), *sheets]


def empty(desk, *stretches):
    return [1, desk, len(stretches), *stretches]


def order(*books):
    return [2, len(books), *books]


def block(number):
    return [12, number]


def judge(borne, *workings):
    return [14, borne, len(workings), *workings]


def more(borne, *workings):
    return [15, borne, len(workings), *workings]


def blocks(*books):
    return [16, len(books), *books]


def swap(place):
    return [17, place]


def line_of(calls):
    """The calls, one behind another, in one list."""
    return [number for call in calls for number in call]


def answered(*calls):
    """The answer to each of the calls, all of them on one new object."""
    return apart(answers(line_of(calls)))


def apart(given):
    """The list that's given back, as a list of answers."""
    found = []
    place = 0
    while place < len(given):
        behind = place + 1 + given[place]
        found.append(given[place + 1:behind])
        place = behind
    assert place == len(given)
    return found


def last_answer(*calls):
    return answered(*calls)[-1]


def slow_done(begun, length, stretches):
    """Moment by moment."""
    if length == 0:
        return begun
    moment = begun
    while True:
        if not any(start <= moment < end for start, end in stretches):
            length -= 1
        moment += 1
        if length == 0:
            return moment


def slow_times(books, empties, row):
    """For each sheet of the row of books when it's computed, and when it's checked."""
    taken = [0] * len(books)
    first = second = 0
    times = []
    for number in row:
        computing, checking = books[number][taken[number]]
        taken[number] += 1
        first = slow_done(first, computing, empties[0])
        second = slow_done(max(first, second), checking, empties[1])
        times.append((first, second))
    return times


def slow_end(books, empties, row):
    times = slow_times(books, empties, row)
    return times[-1][1] if times else 0


def slow_whole_orders(books):
    """All whole orders, the first one first."""
    every = [number for number, sheets in enumerate(books) for sheet in sheets]
    return sorted(set(permutations(every)))


def told(books, empties):
    """The calls that tell these books and these empty times."""
    calls = [book(*[time for sheet in sheets for time in sheet]) for sheets in books]
    for desk in (1, 2):
        calls.append(empty(desk, *[moment for stretch in empties[desk - 1] for moment in stretch]))
    return calls


def some_rooms(chance, how_many):
    """Books and empty times, few enough for the slow way."""
    rooms = []
    while len(rooms) < how_many:
        longest = chance.choice([2, 4, 9])
        books = []
        for number in range(chance.randint(0, 4)):
            count = chance.randint(1, 3)
            books.append([(chance.randint(0, longest), chance.randint(0, longest)) for sheet in range(count)])
        if sum(len(sheets) for sheets in books) <= 7:
            rooms.append((books, [some_stretches(chance), some_stretches(chance)]))
    return rooms


def some_stretches(chance):
    stretches = []
    moment = 0
    for number in range(chance.randint(0, 4)):
        start = moment + chance.randint(0, 5)
        moment = start + chance.randint(1, 6)
        stretches.append((start, moment))
    return stretches
