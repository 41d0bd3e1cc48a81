"""Workings of a number: which numbers can be right, for as many slips as are borne."""


def told_once(workings):
    """The told numbers, each once, as they first come."""
    seen = {}
    for number in workings:
        seen[number] = True
    return list(seen)


def slips_beside(number, workings):
    """How many of the workings are slips, if this number is right."""
    return len(workings) - workings.count(number)


def told_that_can_be_right(borne, workings):
    """The told numbers that can be right, each once, as they first come."""
    return [number for number in told_once(workings) if slips_beside(number, workings) <= borne]


def untold_can_be_right(borne, workings):
    """Whether a number that nobody told can be right."""
    return len(workings) <= borne


def verdict(borne, workings):
    """0 if it isn't sure yet, 1 if it's sure, 2 if there are too many slips."""
    # There is no end of numbers that nobody told: if one can be right, several can.
    if untold_can_be_right(borne, workings):
        return 0
    right = told_that_can_be_right(borne, workings)
    if len(right) == 0:
        return 2
    return int(len(right) == 1)


def two_least_slips(workings):
    """How many slips the two numbers have that have the fewest, of all numbers, told or not."""
    slips = [slips_beside(number, workings) for number in told_once(workings)]
    least, second = sorted(slips + [len(workings), len(workings)])[:2]
    return (least, second)


def more_workings(borne, workings):
    """1, how many more make it sure at the earliest, and at the latest; 0 with too many slips."""
    least, second = two_least_slips(workings)
    if least > borne:
        return [0]
    if second > borne:
        return [1, 0, 0]
    # At the earliest: all further ones tell the number with the fewest slips, and each is one slip
    # more for the second one, till that has more than are borne.
    # At the latest: each further one tells one of these two numbers and is a slip for the other, so
    # both can be right as long as these slips fit into what's left to be borne for both together.
    return [1, borne + 1 - second, 2 * borne - least - second + 1]
