"""What shows answers, and that it changes nothing."""

import unittest

from helper import ask_each, last

# Each names other terms, so that a wrong order is seen.
TERMS = [
    ("number",), ("array",), ("number",), ("array",), ("read", 3, 2), ("store", 3, 2, 4), ("filled", 4),
    ("pickNumber", 4, 2, 0, 2), ("pickArray", 2, 4, 6, 5),
]
SHOWN = [
    [0, 0, 0, 0, 0], [1, 0, 0, 0, 0], [0, 0, 0, 0, 0], [1, 0, 0, 0, 0], [2, 3, 2, 0, 0], [3, 3, 2, 4, 0],
    [4, 4, 0, 0, 0], [5, 4, 2, 0, 2], [6, 2, 4, 6, 5],
]


def shown(terms, claims):
    """The answer, put together of lists of five and of four."""
    return [len(terms)] + sum(terms, []) + [len(claims)] + sum(claims, [])


class Shows(unittest.TestCase):
    def test_nothing_at_all(self):
        self.assertEqual(last([("shows",)]), [0, 0])

    def test_terms_of_every_sort(self):
        for size in range(len(TERMS) + 1):
            with self.subTest(size):
                self.assertEqual(last(TERMS[:size] + [("shows",)]), shown(SHOWN[:size], []))

    def test_claims_in_order(self):
        claims = [("same", 7, 0), ("differ", 8, 1), ("differ", 2, 4), ("same", 5, 5)]
        told = [[1, 1, 7, 0], [2, 0, 8, 1], [3, 0, 2, 4], [4, 1, 5, 5]]
        for size in range(len(claims) + 1):
            with self.subTest(size):
                self.assertEqual(last(TERMS + claims[:size] + [("shows",)]), shown(SHOWN, told[:size]))

    def test_all_that_can_be_there(self):
        calls = [("number",)] * 6 + [("array",)] * 8 + [("differ", 0, 1)] * 12 + [("shows",)]
        terms = [[0, 0, 0, 0, 0]] * 6 + [[1, 0, 0, 0, 0]] * 8
        self.assertEqual(last(calls), shown(terms, [[number, 0, 0, 1] for number in range(1, 13)]))

    def test_behind_drop(self):
        claims = [("same", 0, 2), ("differ", 1, 3), ("differ", 2, 0)]
        calls = TERMS + claims + [("drop", 2), ("shows",)]
        self.assertEqual(last(calls), shown(SHOWN, [[1, 1, 0, 2], [3, 0, 2, 0]]))
        calls = TERMS + claims + [("drop", 1), ("same", 3, 1), ("shows",)]
        self.assertEqual(last(calls), shown(SHOWN, [[2, 0, 1, 3], [3, 0, 2, 0], [4, 1, 3, 1]]))

    def test_behind_back(self):
        calls = TERMS[:5] + [("same", 0, 2), ("differ", 1, 3), ("mark",)] + TERMS[5:] + [("drop", 1), ("same", 5, 6)]
        self.assertEqual(last(calls + [("shows",)]), shown(SHOWN, [[2, 0, 1, 3], [3, 1, 5, 6]]))
        calls += [("back",), ("shows",)]
        self.assertEqual(last(calls), shown(SHOWN[:5], [[1, 1, 0, 2], [2, 0, 1, 3]]))
        calls += [("filled", 2), ("same", 5, 5), ("shows",)]
        expected = shown(SHOWN[:5] + [[4, 2, 0, 0, 0]], [[1, 1, 0, 2], [2, 0, 1, 3], [4, 1, 5, 5]])
        self.assertEqual(last(calls), expected)

    def test_refused_terms_and_claims_are_not_shown(self):
        calls = [("number",), ("filled", 1), ("read", 0, 0), ("same", 0, 1), ("differ", 1, 1), ("shows",)]
        self.assertEqual(last(calls), [1, 0, 0, 0, 0, 0, 0])


class ChangesNothing(unittest.TestCase):
    LOOKS = (("decide",), ("kinds",), ("surely", 0, 2), ("surely", 1, 5), ("surely", 0, 1), ("shows",))

    def check(self, calls):
        expected = last(calls + [("shows",)])
        for look in self.LOOKS:
            with self.subTest(look):
                found = ask_each(calls + [look, look, ("shows",), ("number",), ("same", 0, 0), ("mark",)])[len(calls):]
                self.assertEqual(found[0], found[1])
                self.assertEqual(found[2:], [expected, [9], [4], [2]])

    def test_where_a_world_fits(self):
        self.check(TERMS + [("mark",), ("same", 0, 2), ("differ", 1, 3), ("differ", 3, 5)])

    def test_where_none_fits(self):
        self.check(TERMS + [("mark",), ("same", 0, 2), ("differ", 0, 2), ("differ", 3, 5)])


if __name__ == "__main__":
    unittest.main()
