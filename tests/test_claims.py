"""Promise 2: same and differ."""

import unittest

from helper import GREATEST, ask, ask_each, last

# Terms 0 and 1 are numbers, 2 and 3 arrays.
START = [("number",), ("number",), ("array",), ("array",)]
ALL_PAIRS = [(t, u) for t in range(4) for u in range(4)]
BOTH = ("same", "differ")


def claimed(*calls):
    return ask(START + list(calls))[4:]


class Numbers(unittest.TestCase):
    def test_claims_are_numbered_from_one(self):
        for call in BOTH:
            with self.subTest(call):
                self.assertEqual(claimed((call, 0, 1), (call, 2, 3), (call, 1, 0)), [1, 2, 3])

    def test_same_and_differ_are_numbered_in_one_row(self):
        calls = [("same", 0, 1), ("differ", 2, 3), ("differ", 0, 1), ("same", 3, 2), ("differ", 1, 1)]
        self.assertEqual(claimed(*calls), [1, 2, 3, 4, 5])

    def test_pairs_of_one_sort_may_be_claimed_and_no_others(self):
        for call in BOTH:
            for t, u in ALL_PAIRS:
                with self.subTest(call=call, t=t, u=u):
                    self.assertEqual(claimed((call, t, u)), [1] if (t < 2) == (u < 2) else [-2])

    def test_one_claim_may_be_made_again(self):
        for call in BOTH:
            with self.subTest(call):
                self.assertEqual(claimed((call, 0, 1), (call, 0, 1), (call, 0, 1)), [1, 2, 3])

    def test_each_term_may_be_claimed_to_be_one_of_its_sort(self):
        made = [
            (("read", 2, 0), 0), (("store", 2, 0, 1), 2), (("filled", 0), 2),
            (("pickNumber", 0, 1, 0, 1), 0), (("pickArray", 0, 1, 2, 3), 2),
        ]
        for call in BOTH:
            for maker, like in made:
                with self.subTest(call=call, maker=maker):
                    unlike = 2 - like
                    calls = [maker, (call, 4, like), (call, like, 4), (call, 4, 4), (call, 4, unlike)]
                    self.assertEqual(claimed(*calls), [4, 1, 2, 3, -2])

    def test_claims_and_terms_are_numbered_apart(self):
        for call in BOTH:
            with self.subTest(call):
                calls = [("number",), (call, 0, 0), ("array",), (call, 1, 1), ("read", 1, 0), (call, 2, 0)]
                self.assertEqual(ask(calls), [0, 1, 1, 2, 2, 3])

    def test_claims_that_can_not_hold_may_be_made(self):
        self.assertEqual(claimed(("differ", 0, 0), ("differ", 2, 2), ("same", 0, 1), ("differ", 0, 1)), [1, 2, 3, 4])


class Refusals(unittest.TestCase):
    def test_a_term_that_is_not_there(self):
        for call in BOTH:
            for there in range(4):
                for name in (4, 5, GREATEST):
                    with self.subTest(call=call, there=there, name=name):
                        calls = [(call, there, name), (call, name, there), (call, name, name)]
                        self.assertEqual(claimed(*calls), [-2, -2, -2])

    def test_nothing_is_there_at_the_beginning(self):
        for call in BOTH:
            self.assertEqual(ask([(call, 0, 0)]), [-2])
            self.assertEqual(ask([(call, GREATEST, GREATEST)]), [-2])

    def test_twelve_claims_stand(self):
        for call in BOTH:
            with self.subTest(call):
                calls = [(call, 0, 1)] * 6 + [(call, 2, 3)] * 6 + [(call, 0, 1), (call, 2, 2)]
                self.assertEqual(claimed(*calls), list(range(1, 13)) + [-5, -5])

    def test_twelve_claims_of_both_sorts_stand(self):
        calls = [("same", 0, 1), ("differ", 0, 1)] * 6 + [("same", 0, 1), ("differ", 2, 2)]
        self.assertEqual(claimed(*calls), list(range(1, 13)) + [-5, -5])

    def test_wrong_terms_are_told_ahead_of_too_many(self):
        for call in BOTH:
            with self.subTest(call):
                calls = [("same", 0, 1)] * 12
                calls += [(call, 0, 4), (call, GREATEST, 0), (call, 0, 2), (call, 3, 1), (call, 9, 9), (call, 0, 0)]
                self.assertEqual(claimed(*calls)[12:], [-2, -2, -2, -2, -2, -5])

    def test_a_refusal_uses_no_claim_number_and_does_not_count(self):
        for call in BOTH:
            with self.subTest(call):
                wrong = [(call, 0, 2), (call, 4, 0), (call, 2, GREATEST)]
                calls = wrong + [(call, 0, 1)] + wrong + [(call, 2, 3)] + wrong + [(call, 1, 1)] * 11
                expected = [-2] * 3 + [1] + [-2] * 3 + [2] + [-2] * 3 + list(range(3, 13)) + [-5]
                self.assertEqual(claimed(*calls), expected)

    def test_refused_claims_and_terms_leave_one_another_alone(self):
        for call in BOTH:
            with self.subTest(call):
                calls = [(call, 0, 2), ("number",), ("read", 0, 0), (call, 0, 4), ("filled", GREATEST), ("array",)]
                self.assertEqual(claimed(*calls), [-2, 4, -2, 1, -2, 5])

    def test_terms_may_be_made_while_twelve_claims_stand(self):
        calls = [("differ", 0, 1)] * 13 + [("number",), ("array",), ("differ", 4, 4)]
        self.assertEqual(claimed(*calls)[12:], [-5, 4, 5, -5])

    def test_claims_may_be_made_while_all_terms_are_there(self):
        calls = [("number",)] * 5 + [("array",)] * 7 + [("same", 7, 0), ("differ", 13, 2)]
        self.assertEqual(claimed(*calls), [4, 5, 6, 7, -5, 8, 9, 10, 11, 12, 13, -5, 1, 2])

    def test_a_refusal_leaves_all_as_it_was(self):
        for call in BOTH:
            with self.subTest(call):
                full = START + [("same", 0, 1), ("differ", 2, 3)] * 6
                refused = [(call, 0, 1), (call, 0, 2), (call, 0, GREATEST)]
                self.assertEqual(last(full + refused + [("shows",)]), last(full + [("shows",)]))


class Dropped(unittest.TestCase):
    def test_another_may_be_claimed_with_a_number_never_used(self):
        for call in BOTH:
            with self.subTest(call):
                calls = [("same", 0, 1)] * 12 + [(call, 0, 1), ("drop", 12), (call, 0, 1), (call, 0, 1)]
                self.assertEqual(claimed(*calls)[12:], [-5, 11, 13, -5])
                calls = [(call, 0, 1), ("drop", 1), (call, 0, 1), ("drop", 2), (call, 0, 1)]
                self.assertEqual(claimed(*calls), [1, 0, 2, 0, 3])

    def test_claims_gone_by_back_leave_room_and_their_numbers_are_not_used_again(self):
        for call in BOTH:
            with self.subTest(call):
                calls = START + [("mark",)] + [(call, 0, 1)] * 13 + [("back",)] + [(call, 0, 1)] * 13
                found = ask_each(calls)[5:]
                self.assertEqual(found[:14], [[number] for number in range(1, 13)] + [[-5], [4, 0]])
                self.assertEqual(found[14:], [[number] for number in range(13, 25)] + [[-5]])


if __name__ == "__main__":
    unittest.main()
