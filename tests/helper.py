"""Calls by their names, and answers taken apart again."""

from sameworlds.claims import answers

GREATEST = 4294967295

CALLS = {
    "number": 0, "array": 1, "read": 2, "store": 3, "filled": 4,
    "pickNumber": 5, "pickArray": 6, "same": 7,
}


def flat(calls):
    """[("read", 1, 0), ...] as the flat list that the interface takes."""
    given = []
    for call in calls:
        given.append(CALLS[call[0]])
        given.extend(call[1:])
    return given


def apart(given):
    """What the interface gives back, as one list of numbers for each call."""
    found = []
    place = 0
    while place < len(given):
        behind = place + 1 + given[place]
        assert behind <= len(given), "a count tells of more numbers than there are"
        found.append(given[place + 1:behind])
        place = behind
    return found


def ask(calls):
    """The one number that each of these calls answers."""
    found = apart(answers(flat(calls)))
    assert all(len(numbers) == 1 for numbers in found), found
    return [numbers[0] for numbers in found]
