"""What decide, surely and kinds answer, compared with all worlds of small numbers, gone through in order."""

import random
import unittest

from helper import ARRAY_CALLS, NUMBER_CALLS, SmallWorlds, all_hold, ask_each, last, world_of

NAMED = {"number": "", "array": "", "read": "an", "store": "ann", "filled": "n", "pickNumber": "nnnn", "pickArray": "nnaa"}

# Few unknown ones in each, so that all small worlds can be gone through.
SETTINGS = [
    [],
    [("number",)] * 3,
    [("number",)] * 5,
    [("array",)] * 4,
    [("number",), ("array",), ("array",), ("array",)],
    [("number",), ("number",), ("array",), ("array",)],
    [("array",), ("number",), ("read", 0, 1), ("read", 0, 2), ("read", 0, 3)],
    [("array",), ("array",), ("number",), ("read", 0, 2), ("store", 1, 3, 2), ("filled", 3)],
    [("number",), ("number",), ("array",), ("store", 2, 0, 1), ("store", 3, 1, 0), ("filled", 1), ("read", 3, 1)],
    [("number",), ("array",), ("array",), ("store", 1, 0, 0), ("store", 2, 0, 0), ("filled", 0)],
    [("number",), ("number",), ("array",), ("array",), ("store", 2, 0, 1), ("store", 3, 1, 1), ("filled", 0)],
    [("number",), ("number",), ("filled", 0), ("store", 2, 1, 1), ("store", 3, 0, 0), ("filled", 1), ("array",)],
    [("number",), ("number",), ("number",), ("pickNumber", 0, 1, 2, 0), ("pickNumber", 2, 3, 1, 0)],
    [("number",), ("number",), ("array",), ("array",), ("pickArray", 0, 1, 2, 3), ("store", 4, 0, 1)],
    [("number",), ("array",), ("read", 1, 0), ("pickNumber", 0, 2, 0, 2), ("store", 1, 3, 0), ("pickArray", 0, 3, 4, 1)],
    [("number",), ("filled", 0), ("array",), ("array",), ("pickArray", 0, 0, 2, 3), ("store", 3, 0, 0)],
]


def names_of(terms):
    """The names of the numbers, and those of the arrays."""
    numbers = [name for name, term in enumerate(terms) if term[0] in NUMBER_CALLS]
    return [numbers, [name for name in range(len(terms)) if name not in numbers]]


def some_pairs(source, terms, many):
    """So many pairs of two terms of one sort, most of them of two that aren't one and the same."""
    sorts = [names for names in names_of(terms) if names]
    pairs = []
    while sorts and len(pairs) < many:
        names = source.choice(sorts)
        pair = (source.choice(names), source.choice(names))
        if pair[0] != pair[1] or len(names) == 1 or source.randrange(20) == 0:
            pairs.append(pair)
    return pairs


def some_claims(source, terms, many):
    return [(source.choice(("same", "differ")), t, u) for t, u in some_pairs(source, terms, many)]


def some_terms(source):
    """Six numbers and eight arrays, of all sorts."""
    terms = [("number",), ("array",)]
    while len(terms) < 14:
        numbers, arrays = names_of(terms)
        call = source.choice(tuple(NAMED))
        if len(numbers) < 6 and call in NUMBER_CALLS or len(arrays) < 8 and call in ARRAY_CALLS:
            terms.append((call, *[source.choice(numbers if sort == "n" else arrays) for sort in NAMED[call]]))
    return terms


class AllSmallWorlds(unittest.TestCase):
    def test_answers_are_those_of_all_small_worlds(self):
        source = random.Random(17)
        for terms in SETTINGS:
            small = SmallWorlds(terms)
            for turn in range(27):
                claims = some_claims(source, terms, turn % 9)
                with self.subTest(terms=terms, claims=claims):
                    self.check(small, terms, claims, some_pairs(source, terms, 5))

    def check(self, small, terms, claims, pairs):
        looks = [("decide",), ("kinds",)] + [("surely", t, u) for t, u in pairs]
        found = ask_each(terms + claims + looks)[len(terms) + len(claims):]
        self.assertEqual(found[0], small.decide(claims))
        self.assertEqual(found[1], [small.kinds(claims)])
        self.assertEqual(found[2:], [[small.surely(claims, t, u)] for t, u in pairs])

    def test_every_pair_without_claims_and_with_one(self):
        for terms in SETTINGS:
            small = SmallWorlds(terms)
            pairs = [(t, u) for names in names_of(terms) for t in names for u in names]
            for t, u in pairs:
                with self.subTest(terms=terms, t=t, u=u):
                    self.assertEqual(last(terms + [("surely", t, u)]), [small.surely([], t, u)])
                    for call in ("same", "differ"):
                        self.check(small, terms, [(call, t, u)], [])


class GreatSettings(unittest.TestCase):
    def test_what_is_told_is_a_world_that_fits_or_claims_that_can_not_hold(self):
        source = random.Random(23)
        found = [0, 0]
        for turn in range(120):
            terms = some_terms(source)
            claims = some_claims(source, terms, 4 + turn % 9)
            with self.subTest(terms=terms, claims=claims):
                answer = last(terms + claims + [("decide",)])
                found[answer[0]] += 1
                if answer[0] == 1:
                    self.check_world(terms, claims, answer[1], answer[2:])
                else:
                    self.check_fault(terms, [claims[number - 1] for number in answer[1:]])
        self.assertGreater(min(found), 20, "too few of one sort")

    def check_world(self, terms, claims, k, told):
        values = []
        for term in terms:
            size = 1 if term[0] in NUMBER_CALLS else k + 1
            values.append(told[0] if term[0] in NUMBER_CALLS else tuple(told[:size]))
            told = told[size:]
        self.assertEqual(told, [])
        self.assertEqual(max(value for value in values if isinstance(value, int)) + 1, k)
        unknown = [value if term[0] in ("number", "array") else None for term, value in zip(terms, values)]
        self.assertEqual(world_of(terms, unknown, k), values)
        self.assertTrue(all_hold(claims, values))

    def check_fault(self, terms, claims):
        self.assertEqual(last(terms + claims + [("decide",)]), [0] + list(range(1, len(claims) + 1)))
        for left_out in range(len(claims)):
            others = claims[:left_out] + claims[left_out + 1:]
            self.assertEqual(last(terms + others + [("decide",)])[0], 1)


if __name__ == "__main__":
    unittest.main()
