"""The terms, the claims and the marks that one line of calls is about."""

from sameworlds.terms import MADE, MOST_NAMED, MOST_TERMS, NAMED

MOST_CLAIMS = 12
MOST_MARKS = 8

WRONG_TERM = -2
NO_CLAIM = -3
TOO_MANY = -5
NO_MARK = -7


class Setting:
    """A refused call changes nothing: each method checks all before it changes anything.

    A term is the call that made it and the names that it names; a claim is its number, what it says (1: the same,
    0: they differ) and its two terms; a mark is the terms and the claims as they were.
    """

    def __init__(self):
        self.terms = []
        self.claims = []
        self.marks = []
        # Kept apart from the claims that stand, as no claim's number is used twice.
        self.last_claim = 0

    def sort_of(self, name):
        """Tell the sort of the term of that name, or None if it isn't there."""
        if name >= len(self.terms):
            return None
        return MADE[self.terms[name][0]]

    def of_one_sort(self, t, u):
        """Tell whether t and u are there, and both numbers or both arrays."""
        sort = self.sort_of(t)
        return sort is not None and sort == self.sort_of(u)

    def how_many(self, sort):
        return len([term for term in self.terms if MADE[term[0]] == sort])

    def make_term(self, call, names):
        """Make the term that the call tells; answer its name, or a refusal."""
        if [self.sort_of(name) for name in names] != list(NAMED[call]):
            return WRONG_TERM
        sort = MADE[call]
        if self.how_many(sort) >= MOST_TERMS[sort]:
            return TOO_MANY
        self.terms.append((call, tuple(names)))
        return len(self.terms) - 1

    def make_claim(self, says, t, u):
        """Claim what it says of t and u; answer the claim's number, or a refusal."""
        if not self.of_one_sort(t, u):
            return WRONG_TERM
        if len(self.claims) >= MOST_CLAIMS:
            return TOO_MANY
        self.last_claim += 1
        self.claims.append((self.last_claim, says, t, u))
        return self.last_claim

    def drop_claim(self, number):
        """Drop the claim of that number; answer how many stand then, or a refusal."""
        left = [claim for claim in self.claims if claim[0] != number]
        if len(left) == len(self.claims):
            return NO_CLAIM
        self.claims = left
        return len(left)

    def make_mark(self):
        """Mark the terms and claims as they are; answer how many marks there are then, or a refusal."""
        if len(self.marks) >= MOST_MARKS:
            return TOO_MANY
        self.marks.append((list(self.terms), list(self.claims)))
        return len(self.marks)

    def go_back(self):
        """Go back to the last mark; answer how many terms there are and claims stand then, or a refusal."""
        if not self.marks:
            return [NO_MARK]
        mark = self.marks.pop()
        self.terms = mark[0]
        self.claims = mark[1]
        return [len(self.terms), len(self.claims)]

    def show_all(self):
        """Answer how many terms there are, five numbers for each, how many claims stand, four numbers for each."""
        numbers = [len(self.terms)]
        for term in self.terms:
            numbers.append(term[0])
            numbers.extend(term[1])
            numbers.extend([0] * (MOST_NAMED - len(term[1])))
        numbers.append(len(self.claims))
        for claim in self.claims:
            numbers.extend(claim)
        return numbers
