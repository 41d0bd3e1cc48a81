"""The room: two desks, at which the sheets of books are computed and then checked."""
