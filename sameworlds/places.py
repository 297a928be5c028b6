"""What each term is at each place, once the numbers are told.

A place is a list of labels, one for each term: what the term has there. A label is a number or, below 0, what an
unknown array has there, which isn't told yet. A term that's a number stands at each place with that number: so
claims about numbers and claims about arrays are gone through alike.

Nothing is read or stored at a place that no term's number is. So all places from k on are alike, and one list
stands for them.
"""

from sameworlds.patterns import beyond, patterns
from sameworlds.terms import ARRAY, MADE, PICK_ARRAY, PICK_NUMBER, READ, STORE


def all_places(terms):
    """Give back, for each kind that the terms allow, in order, the places 0 to k - 1 and the one from k on."""
    names = [name for name, term in enumerate(terms) if MADE[term[0]] == "number"]
    found = []
    for pattern in patterns(len(names)):
        numbers = dict(zip(names, pattern))
        if picks_hold(terms, numbers):
            places = [labels_at(terms, numbers, place) for place in range(beyond(pattern) + 1)]
            if reads_hold(terms, numbers, places):
                found.append(places)
    return found


def picks_hold(terms, numbers):
    """Tell whether each number picked is the one that it's picked from; numbers stand by their terms' names."""
    for name, term in enumerate(terms):
        if term[0] == PICK_NUMBER and numbers[name] != numbers[picked(numbers, term[1])]:
            return False
    return True


def picked(numbers, named):
    """Tell the name of the term that's picked."""
    return named[2] if numbers[named[0]] == numbers[named[1]] else named[3]


def labels_at(terms, numbers, place):
    labels = []
    for name, term in enumerate(terms):
        labels.append(numbers[name] if name in numbers else array_label(name, term, numbers, labels, place))
    return labels


def array_label(name, term, numbers, labels, place):
    """Tell what the array has at the place, given the labels of the terms ahead of it."""
    named = term[1]
    if term[0] == ARRAY:
        return -1 - name
    if term[0] == STORE:
        return numbers[named[2]] if numbers[named[1]] == place else labels[named[0]]
    if term[0] == PICK_ARRAY:
        return labels[picked(numbers, named)]
    return numbers[named[0]]


def reads_hold(terms, numbers, places):
    """Put what is read into the places; tell whether none of it contradicts what is there."""
    for name, term in enumerate(terms):
        if term[0] == READ:
            place = numbers[term[1][1]]
            labels = joined(places[place], name, term[1][0])
            if labels is None:
                return False
            places[place] = labels
    return True


def joined(labels, t, u):
    """Give back the labels as they are once t and u are the same, or None if they're numbers that differ."""
    kept = max(labels[t], labels[u])
    gone = min(labels[t], labels[u])
    if kept == gone:
        return labels
    if gone >= 0:
        return None
    return [kept if label == gone else label for label in labels]
