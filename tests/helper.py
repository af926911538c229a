"""Writes calls as the interface asks for them, and takes answers apart."""

from wouldrather.rather import answers

PLAIN = {
    "begin": (0, 2), "likelier": (1, 3), "unlikelier": (2, 1), "unlot": (4, 1), "prize": (5, 3),
    "rather": (6, 3), "unrather": (7, 1), "back": (8, 0), "again": (9, 0), "chances": (10, 0),
    "ways": (11, 0), "least": (12, 0), "worth": (14, 1), "more": (15, 2), "may": (16, 3),
    "ineach": (17, 2), "best": (18, 0), "maybest": (19, 0), "prizes": (20, 2), "learn": (21, 1),
    "learnall": (22, 0), "clashes": (23, 0), "spare": (24, 0), "side": (26, 1), "rules": (27, 2),
    "look": (28, 1), "told": (29, 1), "state": (30, 0),
}
ROWS = {"lot": 3, "fits": 13, "wrong": 25}
MOST_CALLS = 30


def written(call):
    """("rather", 0, 1, 2) or ("lot", [0, 1]) as whole numbers."""
    name, given = call[0], list(call[1:])
    if name in ROWS:
        return [ROWS[name], len(given[0])] + list(given[0])
    number, count = PLAIN[name]
    if len(given) != count:
        raise ValueError(call)
    return [number] + given


def line(calls):
    return [number for call in calls for number in written(call)]


def taken_apart(numbers):
    found = []
    place = 0
    while place < len(numbers):
        size = numbers[place]
        found.append(numbers[place + 1:place + 1 + size])
        if len(found[-1]) != size:
            raise ValueError("an answer is cut off")
        place += 1 + size
    return found


def said(*calls):
    """The answers to calls on one new object, a list each."""
    if not 1 <= len(calls) <= MOST_CALLS:
        raise ValueError("a line has 1 to 30 calls")
    return taken_apart(answers(line(calls)))


def last(*calls):
    return said(*calls)[-1]
