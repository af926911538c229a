"""Which of what is told rather can't go together, and which could be left out."""

from wouldrather.fitting import all_numbers, disagreed_with, rather_gaps
from wouldrather.members import members, set_of, set_of_all


def wrong_sets(told, shares):
    """All that each of the numbers does not agree with, as a set; a dict of True, for many have the same."""
    tellings = rather_gaps(told, shares)
    found = {}
    for numbers in all_numbers(told.prizes):
        found[set_of(disagreed_with(tellings, numbers))] = True
    return found


def go_together(wrongs, chosen):
    """Whether some numbers agree with all that is chosen."""
    return any([wrong & chosen == 0 for wrong in wrongs])


def is_clash(wrongs, chosen):
    if go_together(wrongs, chosen):
        return False
    return all([go_together(wrongs, chosen - set_of([place])) for place in members(chosen)])


def all_clashes(told, shares):
    """The clashes as sets, rising; none where some numbers fit."""
    wrongs = wrong_sets(told, shares)
    return [chosen for chosen in range(set_of_all(len(told.rather)) + 1) if is_clash(wrongs, chosen)]


def all_to_spare(told, shares):
    """What could be left out, each alone, and no more numbers would fit, rising.

    More would fit just where some numbers agree with all but that one.
    """
    wrongs = wrong_sets(told, shares)
    return [place for place in range(len(told.rather)) if set_of([place]) not in wrongs]
