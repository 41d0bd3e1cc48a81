"""The clocks of both desks along an order, and the search through all whole orders.

A sheet is a pair (how long it's computed, how long it's checked), a book is a list of sheets.
A stretch is a pair (its first moment, the moment behind its last one). Empties are two lists of
stretches, one for each desk. Clocks are a pair: when the first desk is free, when the second one is.
A standing is a pair: taken, which is of each book how many sheets are behind, and the clocks then.
"""


def work_done(begun, length, stretches):
    """When work of this length is done at a desk that's empty in these stretches."""
    # Work of no length is done at once, even within a stretch.
    if length == 0:
        return begun
    moment = begun
    to_do = length
    for start, end in stretches:
        if moment + to_do <= start:
            break
        if moment < start:
            to_do -= start - moment
        moment = max(moment, end)
    return moment + to_do


def clocks_behind(clocks, sheet, empties):
    """The clocks behind one more sheet."""
    computed = work_done(clocks[0], sheet[0], empties[0])
    checked = work_done(max(computed, clocks[1]), sheet[1], empties[1])
    return (computed, checked)


def first_standing(books):
    """The standing before the first sheet."""
    return ((0,) * len(books), (0, 0))


def count_sheets(books):
    """How many sheets all books have together."""
    return sum([len(sheets) for sheets in books])


def standing_behind(books, empties, standing, book):
    """The standing behind the next sheet of this book; None if it has none left."""
    taken, clocks = standing
    number = taken[book]
    if number == len(books[book]):
        return None
    taken_behind = taken[:book] + (number + 1,) + taken[book + 1:]
    return (taken_behind, clocks_behind(clocks, books[book][number], empties))


def standings_along(books, empties, order):
    """The standings of an order: before its first sheet, and behind each one."""
    standing = first_standing(books)
    standings = [standing]
    for book in order:
        standing = standing_behind(books, empties, standing, book)
        standings.append(standing)
    return standings


def one_sheet_on(books, empties, kept):
    """What's kept behind one sheet more: for each such taken the clocks with the least second one."""
    behind = {}
    for standing in kept.items():
        for book in range(len(books)):
            further = standing_behind(books, empties, standing, book)
            if further is not None:
                taken, clocks = further
                if taken not in behind or clocks[1] < behind[taken][1]:
                    behind[taken] = clocks
    return behind


def least_end(books, empties, standing):
    """The least end of all whole orders that go on from this standing."""
    # Of all ways to have the same sheets behind, the one with the least second clock is enough:
    # the first clock is the same for all of them, and work that's begun sooner is not done later.
    taken, clocks = standing
    kept = {taken: clocks}
    for sheets_behind in range(sum(taken), count_sheets(books)):
        kept = one_sheet_on(books, empties, kept)
    return min([last[1] for last in kept.values()])


def leads_to(goal, books, empties, standing, book):
    """Whether, with this book's next sheet behind the standing, the least end is the goal."""
    further = standing_behind(books, empties, standing, book)
    return further is not None and least_end(books, empties, further) == goal


def first_best_order(books, empties):
    """The first of the whole orders with the least end."""
    standing = first_standing(books)
    goal = least_end(books, empties, standing)
    order = []
    while len(order) < count_sheets(books):
        # One of the books leads to the goal, as the goal can be had from each standing here.
        book = 0
        while not leads_to(goal, books, empties, standing, book):
            book += 1
        order.append(book)
        standing = standing_behind(books, empties, standing, book)
    return order


def count_whole_orders(books):
    """How many whole orders there are."""
    # A book with k sheets behind n others can lie among them in (n + k)! // (n! * k!) ways; built
    # up sheet by sheet, each division leaves no rest.
    ways = 1
    sheets_before = 0
    for sheets in books:
        for number in range(1, len(sheets) + 1):
            sheets_before += 1
            ways = ways * sheets_before // number
    return ways
