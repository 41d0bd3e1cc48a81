"""Blocks, which are books done as a whole one behind the other, and what an order's end hangs on.

Here both desks are never empty. Books and sheets are as in twodesks.clocks.
"""

from twodesks.clocks import standings_along


def end_of(books, order):
    """The end of an order, with desks that are never empty."""
    return standings_along(books, [[], []], order)[-1][1][1]


def block_end(books, row):
    """The end, if the books of this row are done, one wholly behind the other."""
    order = []
    for book in row:
        order.extend([book] * len(books[book]))
    return end_of(books, order)


def three_numbers(books, book):
    """How long a book is computed, how long it's checked, and its end, if it's done alone."""
    computed = sum([sheet[0] for sheet in books[book]])
    checked = sum([sheet[1] for sheet in books[book]])
    return [computed, checked, block_end(books, [book])]


def lead_and_tail(books, book):
    """A book's lead, and its tail."""
    computed, checked, end = three_numbers(books, book)
    return [end - checked, end - computed]


def books_by_rule(books):
    """All books by the two-desk rule."""
    ranked = []
    for book in range(len(books)):
        lead, tail = lead_and_tail(books, book)
        if lead <= tail:
            ranked.append((0, lead, book))
        else:
            # The greatest tail comes first.
            ranked.append((1, -tail, book))
    return [rank[2] for rank in sorted(ranked)]


def sheets_along(books, order):
    """The sheets of an order, one for each place."""
    taken = [0] * len(books)
    sheets = []
    for book in order:
        sheets.append(books[book][taken[book]])
        taken[book] += 1
    return sheets


def hanging_place(books, order):
    """The place of the sheet on which the end of the order hangs; the order isn't empty."""
    sheets = sheets_along(books, order)
    up_to_it = 0
    from_it_on = sum([sheet[1] for sheet in sheets])
    sums = []
    for computed, checked in sheets:
        up_to_it += computed
        sums.append(up_to_it + from_it_on)
        from_it_on -= checked
    # The end is the greatest of these sums, so it's always among them.
    return sums.index(end_of(books, order))
