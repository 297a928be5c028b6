"""The terms and the claims that one line of calls is about."""

from sameworlds.terms import MADE, MOST_TERMS, NAMED

MOST_CLAIMS = 12

WRONG_TERM = -2
TOO_MANY = -5


class Setting:
    """A refused call changes nothing: each method checks all before it changes anything."""

    def __init__(self):
        self.terms = []
        self.claims = []
        # Kept apart from the claims that stand, as no claim's number is used twice.
        self.last_claim = 0

    def sort_of(self, name):
        """Tell the sort of the term of that name, or None if it isn't there."""
        if name >= len(self.terms):
            return None
        return MADE[self.terms[name][0]]

    def how_many(self, sort):
        return len([term for term in self.terms if MADE[term[0]] == sort])

    def make_term(self, call, names):
        """Make the term that the call tells; answer its name, or a refusal."""
        if [self.sort_of(name) for name in names] != list(NAMED[call]):
            return WRONG_TERM
        sort = MADE[call]
        if self.how_many(sort) >= MOST_TERMS[sort]:
            return TOO_MANY
        self.terms.append((call, tuple(names)))
        return len(self.terms) - 1

    def claim_same(self, t, u):
        """Claim that t and u are the same; answer the claim's number, or a refusal."""
        sort = self.sort_of(t)
        if sort is None or sort != self.sort_of(u):
            return WRONG_TERM
        if len(self.claims) >= MOST_CLAIMS:
            return TOO_MANY
        self.last_claim += 1
        self.claims.append((self.last_claim, t, u))
        return self.last_claim
