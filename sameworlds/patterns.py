"""The first numbers of each kind of world."""


def patterns(how_many):
    """Give back, in order, the first numbers that so many terms can have, of each kind.

    No term and no claim asks more of numbers than which of them are the same. So if a world fits, one fits too in
    which the numbers are told anew by the order in which they come: 0 the first, and each new one the least that
    isn't there yet.
    """
    found = [()]
    for length in range(how_many):
        longer = []
        for numbers in found:
            for number in range(beyond(numbers) + 1):
                longer.append(numbers + (number,))
        found = longer
    return found


def beyond(numbers):
    """Tell the least number above all of these."""
    return max(numbers, default=-1) + 1
