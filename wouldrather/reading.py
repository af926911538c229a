"""Takes one list of whole numbers apart into calls."""

from wouldrather.codes import FITS, LOT, WRONG

# How many whole numbers each call has, by the call's number; a row and its length don't count.
COUNTS = (2, 3, 1, 0, 1, 3, 3, 1, 0, 0, 0, 0, 0, 0, 1, 2, 3, 2, 0, 0, 2, 1, 0, 0, 0, 0, 1, 2, 1, 1, 0)


def has_row(call):
    return call == LOT or call == FITS or call == WRONG


def read_calls(numbers):
    """Each call as a pair: its number, and a new list of what it is given.

    No call has both whole numbers and a row, so one list holds either.
    """
    found = []
    place = 0
    while place < len(numbers):
        call = numbers[place]
        size = COUNTS[call]
        start = place + 1
        if has_row(call):
            size = numbers[start]
            start = start + 1
        place = start + size
        found.append((call, numbers[start:place]))
    return found
