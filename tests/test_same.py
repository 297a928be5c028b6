"""Promise 2, of same."""

import unittest

from helper import GREATEST, ask

# Terms 0 and 1 are numbers, 2 and 3 arrays.
START = [("number",), ("number",), ("array",), ("array",)]
ALL_PAIRS = [(t, u) for t in range(4) for u in range(4)]


def claimed(*calls):
    return ask(START + list(calls))[4:]


class Numbers(unittest.TestCase):
    def test_claims_are_numbered_from_one(self):
        self.assertEqual(claimed(("same", 0, 1), ("same", 2, 3), ("same", 1, 0)), [1, 2, 3])

    def test_pairs_of_one_sort_may_be_claimed_and_no_others(self):
        for t, u in ALL_PAIRS:
            with self.subTest(t=t, u=u):
                self.assertEqual(claimed(("same", t, u)), [1] if (t < 2) == (u < 2) else [-2])

    def test_one_claim_may_be_made_again(self):
        self.assertEqual(claimed(("same", 0, 1), ("same", 0, 1), ("same", 0, 1)), [1, 2, 3])

    def test_each_term_may_be_claimed_to_be_one_of_its_sort(self):
        made = [
            (("read", 2, 0), 0), (("store", 2, 0, 1), 2), (("filled", 0), 2),
            (("pickNumber", 0, 1, 0, 1), 0), (("pickArray", 0, 1, 2, 3), 2),
        ]
        for call, like in made:
            with self.subTest(call):
                unlike = 2 - like
                calls = [call, ("same", 4, like), ("same", like, 4), ("same", 4, 4), ("same", 4, unlike)]
                self.assertEqual(claimed(*calls), [4, 1, 2, 3, -2])

    def test_claims_and_terms_are_numbered_apart(self):
        calls = [("number",), ("same", 0, 0), ("array",), ("same", 1, 1), ("read", 1, 0), ("same", 2, 0)]
        self.assertEqual(ask(calls), [0, 1, 1, 2, 2, 3])


class Refusals(unittest.TestCase):
    def test_a_term_that_is_not_there(self):
        for there in range(4):
            for name in (4, 5, GREATEST):
                with self.subTest(there=there, name=name):
                    calls = [("same", there, name), ("same", name, there), ("same", name, name)]
                    self.assertEqual(claimed(*calls), [-2, -2, -2])

    def test_nothing_is_there_at_the_beginning(self):
        self.assertEqual(ask([("same", 0, 0)]), [-2])
        self.assertEqual(ask([("same", GREATEST, GREATEST)]), [-2])

    def test_twelve_claims_stand(self):
        calls = [("same", 0, 1)] * 6 + [("same", 2, 3)] * 6 + [("same", 0, 1), ("same", 2, 2)]
        self.assertEqual(claimed(*calls), list(range(1, 13)) + [-5, -5])

    def test_wrong_terms_are_told_ahead_of_too_many(self):
        calls = [("same", 0, 1)] * 12
        calls += [("same", 0, 4), ("same", GREATEST, 0), ("same", 0, 2), ("same", 3, 1), ("same", 9, 9), ("same", 0, 0)]
        self.assertEqual(claimed(*calls)[12:], [-2, -2, -2, -2, -2, -5])

    def test_a_refusal_uses_no_claim_number_and_does_not_count(self):
        wrong = [("same", 0, 2), ("same", 4, 0), ("same", 2, GREATEST)]
        calls = wrong + [("same", 0, 1)] + wrong + [("same", 2, 3)] + wrong + [("same", 1, 1)] * 11
        expected = [-2] * 3 + [1] + [-2] * 3 + [2] + [-2] * 3 + list(range(3, 13)) + [-5]
        self.assertEqual(claimed(*calls), expected)

    def test_refused_claims_and_terms_leave_one_another_alone(self):
        calls = [("same", 0, 2), ("number",), ("read", 0, 0), ("same", 0, 4), ("filled", GREATEST), ("array",)]
        self.assertEqual(claimed(*calls), [-2, 4, -2, 1, -2, 5])

    def test_terms_may_be_made_while_twelve_claims_stand(self):
        calls = [("same", 0, 1)] * 13 + [("number",), ("array",), ("same", 4, 4)]
        self.assertEqual(claimed(*calls)[12:], [-5, 4, 5, -5])

    def test_claims_may_be_made_while_all_terms_are_there(self):
        calls = [("number",)] * 5 + [("array",)] * 7 + [("same", 7, 0), ("same", 13, 2)]
        self.assertEqual(claimed(*calls), [4, 5, 6, 7, -5, 8, 9, 10, 11, 12, 13, -5, 1, 2])


if __name__ == "__main__":
    unittest.main()
