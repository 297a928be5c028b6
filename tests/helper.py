"""Calls by their names, answers taken apart again, and all worlds of small numbers to compare answers with."""

import itertools

from sameworlds.claims import answers

GREATEST = 4294967295

CALLS = {
    "number": 0, "array": 1, "read": 2, "store": 3, "filled": 4, "pickNumber": 5, "pickArray": 6, "same": 7,
    "differ": 8, "drop": 9, "mark": 10, "back": 11, "decide": 12, "surely": 13, "kinds": 14, "shows": 15,
}
NUMBER_CALLS = ("number", "read", "pickNumber")
ARRAY_CALLS = ("array", "store", "filled", "pickArray")


def flat(calls):
    """[("read", 1, 0), ...] as the flat list that the interface takes."""
    given = []
    for call in calls:
        given.append(CALLS[call[0]])
        given.extend(call[1:])
    return given


def apart(given):
    """What the interface gives back, as one list of numbers for each call."""
    found = []
    place = 0
    while place < len(given):
        behind = place + 1 + given[place]
        assert behind <= len(given), "a count tells of more numbers than there are"
        found.append(given[place + 1:behind])
        place = behind
    return found


def ask_each(calls):
    """The list of numbers that each of these calls answers."""
    found = apart(answers(flat(calls)))
    assert len(found) == len(calls), found
    return found


def ask(calls):
    """The one number that each of these calls answers."""
    found = ask_each(calls)
    assert all(len(numbers) == 1 for numbers in found), found
    return [numbers[0] for numbers in found]


def last(calls):
    """The list of numbers that the last of these calls answers."""
    return ask_each(calls)[-1]


def world_of(terms, unknown, size):
    """What each term is; an array is a tuple: what it has at the places below size, and one number for all others.

    unknown has None for a term that isn't unknown. What is stored is to be stored at a place below size.
    """
    made = []
    for term, value in zip(terms, unknown):
        made.append(value if value is not None else value_of(term[0], [made[name] for name in term[1:]], size))
    return made


def value_of(call, named, size):
    if call == "filled":
        return (named[0],) * (size + 1)
    if call in ("pickNumber", "pickArray"):
        return named[2] if named[0] == named[1] else named[3]
    place = min(named[1], size)
    if call == "read":
        return named[0][place]
    return named[0][:place] + (named[2],) + named[0][place + 1:]


def all_hold(claims, world):
    """Whether these claims, each ("same" or "differ", t, u), hold in the world."""
    for call, t, u in claims:
        if (world[t] == world[u]) != (call == "same"):
            return False
    return True


class SmallWorlds:
    """All worlds of the terms in which no number is great: slow, and with nothing of the program's own ways.

    A term that's a number is below n, the number of such terms; arrays have one number at all places from n on; and
    there are numbers enough for all unknown arrays to differ everywhere.
    """

    def __init__(self, terms):
        self.terms = terms
        self.numbers = [name for name, term in enumerate(terms) if term[0] in NUMBER_CALLS]
        self.unknown_arrays = [name for name, term in enumerate(terms) if term[0] == "array"]
        size = len(self.numbers)
        made = [world_of(terms, unknown, size) for unknown in itertools.product(*map(self.choices, terms))]
        self.worlds = [world for world in made if all(world[name] < size for name in self.numbers)]
        self.kept = ([], self.worlds)

    def choices(self, term):
        """What the term may be, where it's unknown; else None alone."""
        size = len(self.numbers)
        if term[0] == "number":
            return range(size)
        if term[0] == "array":
            return itertools.product(range(size + len(self.unknown_arrays)), repeat=size + 1)
        return (None,)

    def fitting(self, claims):
        """The worlds in which the claims hold; those asked for last are kept, as they're asked for often."""
        if self.kept[0] != claims:
            self.kept = (list(claims), [world for world in self.worlds if all_hold(claims, world)])
        return self.kept[1]

    def decide(self, claims):
        """What decide answers; the claims are numbered 1 and on."""
        if not self.fitting(claims):
            return [0] + self.at_fault(claims)
        first = min([world[name] for name in self.numbers] for world in self.fitting(claims))
        k = max(first, default=-1) + 1
        told = []
        for world in self.fitting(claims):
            arrays = [value for value in world if isinstance(value, tuple)]
            if [world[name] for name in self.numbers] == first and all(len(set(a[k:])) == 1 for a in arrays):
                told.append(([world[name][:k + 1] for name in self.unknown_arrays], world))
        answer = [1, k]
        for value in min(told, key=lambda pair: pair[0])[1]:
            answer.extend(value[:k + 1] if isinstance(value, tuple) else [value])
        return answer

    def at_fault(self, claims):
        left = list(range(len(claims)))
        for one in range(len(claims)):
            others = [other for other in left if other != one]
            if not self.fitting([claims[other] for other in others]):
                left = others
        return [one + 1 for one in left]

    def surely(self, claims, t, u):
        found = {world[t] == world[u] for world in self.fitting(claims)}
        if not found:
            return -6
        return 2 if len(found) == 2 else int(found.pop())

    def kinds(self, claims):
        pairs = list(itertools.combinations(self.numbers, 2))
        return len({tuple(world[t] == world[u] for t, u in pairs) for world in self.fitting(claims)})
