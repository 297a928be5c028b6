"""Which worlds fit: the first one, the claims at fault, what's surely so, and how many kinds there are."""

from sameworlds.places import all_places, joined
from sameworlds.terms import ARRAY, MADE

# What a claim says of its two terms.
ARE_SAME = 1
DO_DIFFER = 0


def decided(terms, claims):
    """Give back 1, k and the terms of the first world that fits, or 0 and the numbers of the claims at fault."""
    kinds = all_places(terms)
    places = first_fit(kinds, claims)
    if places is None:
        return [0] + [claim[0] for claim in at_fault(kinds, claims)]
    return [1, len(places) - 1] + told_terms(terms, first_world(terms, claims, places))


def at_fault(kinds, claims):
    """Give back claims that can't hold together, none of them too many, given claims that can't."""
    left = claims
    for claim in claims:
        others = [other for other in left if other[0] != claim[0]]
        if first_fit(kinds, others) is None:
            left = others
    return left


def sureness(terms, claims, t, u):
    """Tell 1 if t and u are the same in every world that fits, 0 if in none, else 2; None if no world fits."""
    kinds = all_places(terms)
    may_be_same = first_fit(kinds, claims + [(0, ARE_SAME, t, u)]) is not None
    may_differ = first_fit(kinds, claims + [(0, DO_DIFFER, t, u)]) is not None
    if may_be_same and may_differ:
        return 2
    if may_be_same:
        return 1
    return 0 if may_differ else None


def how_many_kinds(terms, claims):
    return len([places for places in all_places(terms) if fitted(places, claims) is not None])


def first_fit(kinds, claims):
    """Give back the places, as far as the claims tell them, of the first kind that fits; None if none does."""
    for places in kinds:
        found = fitted(places, claims)
        if found is not None:
            return found
    return None


def fitted(places, claims):
    """Give back the places, with what's claimed to be the same joined there, or None if the claims can't all hold."""
    found = []
    for labels in places:
        labels_then = all_joined(labels, claims)
        if labels_then is None:
            return None
        found.append(labels_then)
    return found if all_differ(found, claims) else None


def all_joined(labels, claims):
    """Give back the labels once all that's claimed to be the same is so, or None if it can't be."""
    for claim in claims:
        if claim[1] == ARE_SAME:
            labels = joined(labels, claim[2], claim[3])
            if labels is None:
                return None
    return labels


def all_differ(places, claims):
    """Tell whether each two terms that are claimed to differ can do so at some place.

    Labels below 0 may all be told numbers of their own, as there's no greatest one: so labels that differ are
    enough, and no claim stands in another's way.
    """
    for claim in claims:
        if claim[1] == DO_DIFFER and not differ_somewhere(places, claim[2], claim[3]):
            return False
    return True


def differ_somewhere(places, t, u):
    for labels in places:
        if labels[t] != labels[u]:
            return True
    return False


def first_world(terms, claims, places):
    """Give back the places of the first world, given those of its kind: there each label below 0 is told."""
    told = places
    for name, term in enumerate(terms):
        if term[0] == ARRAY:
            for place in range(len(places)):
                told = with_least(told, place, name, claims)
    return told


def with_least(places, place, name, claims):
    """Give back the places with the least number there, for the term of that name, with which claims can hold."""
    label = places[place][name]
    if label >= 0:
        return places
    number = 0
    found = with_number(places, place, label, number)
    while not all_differ(found, claims):
        number += 1
        found = with_number(places, place, label, number)
    return found


def with_number(places, place, label, number):
    """Give back the places with the number in the place of the label there."""
    labels = [number if other == label else other for other in places[place]]
    return places[:place] + [labels] + places[place + 1:]


def told_terms(terms, places):
    """Give back each term's number, or what the array has at each place."""
    numbers = []
    for name, term in enumerate(terms):
        if MADE[term[0]] == "number":
            numbers.append(places[0][name])
        else:
            numbers.extend([labels[name] for labels in places])
    return numbers
