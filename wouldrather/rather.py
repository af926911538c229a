"""The package's interface: calls in one list, answers in another."""

from wouldrather.reading import read_calls
from wouldrather.session import Session


def answers(calls):
    """For each call, in order, how many numbers are answered, then these."""
    session = Session()
    found = []
    for call, given in read_calls(calls):
        answer = session.answer(call, given)
        found.append(len(answer))
        found.extend(answer)
    return found
