"""Sets told as one number: the member with number i counts 2 to the power of i."""


def is_member(chosen, place):
    return (chosen >> place) & 1 == 1


def members(chosen):
    """The numbers of a set's members, rising."""
    return [place for place in range(chosen.bit_length()) if is_member(chosen, place)]


def set_of(places):
    return sum([1 << place for place in places])


def set_of_all(size):
    return (1 << size) - 1
