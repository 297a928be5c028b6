"""Promise 3: drop, mark and back."""

import unittest

from helper import GREATEST, ask, ask_each, last

# Terms 0 and 1 are numbers, 2 and 3 arrays; claims 1, 2 and 3 stand.
TERMS = [("number",), ("number",), ("array",), ("array",)]
START = TERMS + [("same", 0, 1), ("differ", 2, 3), ("same", 3, 3)]
SHOWN_TERMS = [4, 0, 0, 0, 0, 0, 0, 0, 0, 0, 0, 1, 0, 0, 0, 0, 1, 0, 0, 0, 0]
FIRST = [1, 1, 0, 1]
SECOND = [2, 0, 2, 3]
THIRD = [3, 1, 3, 3]


def answered(*calls):
    return ask_each(START + list(calls))[len(START):]


def claims_shown(*calls):
    """What shows tells of the claims behind these calls; the terms are to be those of the start."""
    shown = last(START + list(calls) + [("shows",)])
    assert shown[:len(SHOWN_TERMS)] == SHOWN_TERMS, shown
    return shown[len(SHOWN_TERMS):]


class Drop(unittest.TestCase):
    def test_answers_how_many_claims_stand_then(self):
        self.assertEqual(answered(("drop", 2), ("drop", 1), ("drop", 3)), [[2], [1], [0]])

    def test_the_claim_of_that_number_is_dropped(self):
        self.assertEqual(claims_shown(("drop", 1)), [2] + SECOND + THIRD)
        self.assertEqual(claims_shown(("drop", 2)), [2] + FIRST + THIRD)
        self.assertEqual(claims_shown(("drop", 3)), [2] + FIRST + SECOND)
        self.assertEqual(claims_shown(("drop", 1), ("drop", 2)), [1] + THIRD)

    def test_a_claim_that_was_never_claimed(self):
        for number in (0, 4, 5, 13, GREATEST):
            with self.subTest(number):
                self.assertEqual(answered(("drop", number)), [[-3]])
                self.assertEqual(claims_shown(("drop", number)), [3] + FIRST + SECOND + THIRD)

    def test_nothing_stands_at_the_beginning(self):
        for number in (0, 1, GREATEST):
            self.assertEqual(ask([("drop", number)]), [-3])

    def test_a_claim_that_was_dropped_already(self):
        self.assertEqual(answered(("drop", 2), ("drop", 2), ("drop", 2)), [[2], [-3], [-3]])

    def test_a_claim_that_was_refused(self):
        self.assertEqual(answered(("same", 0, 2), ("drop", 4)), [[-2], [-3]])

    def test_a_claim_gone_by_back(self):
        calls = [("mark",), ("same", 0, 0), ("drop", 4), ("same", 0, 0), ("back",), ("drop", 4), ("drop", 5)]
        self.assertEqual(answered(*calls), [[1], [4], [3], [5], [4, 3], [-3], [-3]])

    def test_a_claim_that_stands_again_by_back(self):
        calls = [("mark",), ("drop", 1), ("drop", 1), ("back",), ("drop", 1), ("drop", 1)]
        self.assertEqual(answered(*calls), [[1], [2], [-3], [4, 3], [2], [-3]])

    def test_a_claim_that_is_not_at_the_place_of_its_number(self):
        calls = [("drop", 1), ("same", 1, 1), ("drop", 1), ("drop", 4), ("drop", 3), ("drop", 2), ("drop", 2)]
        self.assertEqual(answered(*calls), [[2], [4], [-3], [2], [1], [0], [-3]])

    def test_what_is_dropped_need_not_hold(self):
        calls = [("differ", 0, 1), ("kinds",), ("drop", 1), ("kinds",), ("drop", 4), ("kinds",)]
        self.assertEqual(answered(*calls), [[4], [0], [3], [1], [2], [2]])


class Mark(unittest.TestCase):
    def test_answers_how_many_marks_there_are_then(self):
        self.assertEqual(ask([("mark",)]), [1])
        self.assertEqual(ask([("mark",)] * 8), [1, 2, 3, 4, 5, 6, 7, 8])

    def test_there_are_eight(self):
        self.assertEqual(ask([("mark",)] * 10)[8:], [-5, -5])
        calls = [("mark",)] * 9 + [("back",), ("mark",), ("mark",)]
        self.assertEqual(answered(*calls)[8:], [[-5], [4, 3], [8], [-5]])

    def test_a_refused_mark_marks_nothing(self):
        calls = [("mark",)] * 8 + [("drop", 1), ("number",), ("mark",), ("drop", 2), ("back",)]
        self.assertEqual(answered(*calls)[8:], [[2], [4], [-5], [1], [4, 3]])

    def test_a_mark_changes_nothing_else(self):
        self.assertEqual(claims_shown(("mark",), ("mark",)), [3] + FIRST + SECOND + THIRD)
        self.assertEqual(answered(("mark",), ("number",), ("same", 0, 4), ("drop", 1)), [[1], [4], [4], [3]])


class Back(unittest.TestCase):
    def test_there_is_no_mark(self):
        self.assertEqual(ask([("back",)]), [-7])
        self.assertEqual(answered(("back",), ("mark",), ("back",), ("back",)), [[-7], [1], [4, 3], [-7]])

    def test_a_refusal_leaves_all_as_it_was(self):
        self.assertEqual(claims_shown(("back",)), [3] + FIRST + SECOND + THIRD)
        self.assertEqual(answered(("back",), ("number",), ("same", 0, 0), ("mark",)), [[-7], [4], [4], [1]])

    def test_to_nothing_at_all(self):
        calls = [("mark",), ("number",), ("array",), ("same", 0, 0), ("back",), ("shows",), ("decide",), ("same", 0, 0)]
        self.assertEqual(ask_each(calls), [[1], [0], [1], [1], [0, 0], [0, 0], [1, 0], [-2]])

    def test_terms_made_since_then_are_gone_and_their_names_are_used_again(self):
        calls = [("mark",), ("number",), ("filled", 4), ("back",), ("same", 4, 4), ("array",), ("read", 4, 0)]
        self.assertEqual(answered(*calls), [[1], [4], [5], [4, 3], [-2], [4], [5]])

    def test_terms_gone_leave_room(self):
        calls = [("mark",)] + [("number",)] * 5 + [("array",)] * 7 + [("back",)] + [("number",)] * 5 + [("array",)] * 7
        names = [[4], [5], [6], [7], [-5], [8], [9], [10], [11], [12], [13], [-5]]
        self.assertEqual(answered(*calls), [[1]] + names + [[4, 3]] + names)

    def test_claims_made_since_then_are_gone_and_their_numbers_are_not_used_again(self):
        calls = [("mark",), ("same", 0, 0), ("differ", 0, 0), ("back",)]
        self.assertEqual(answered(*calls, ("same", 1, 1)), [[1], [4], [5], [4, 3], [6]])
        self.assertEqual(claims_shown(*calls), [3] + FIRST + SECOND + THIRD)
        self.assertEqual(claims_shown(*calls, ("same", 1, 0)), [4] + FIRST + SECOND + THIRD + [6, 1, 1, 0])

    def test_claims_dropped_since_then_stand_again_in_their_order(self):
        calls = [("mark",), ("drop", 1), ("drop", 2), ("same", 0, 0), ("back",)]
        self.assertEqual(answered(*calls), [[1], [2], [1], [4], [4, 3]])
        self.assertEqual(claims_shown(*calls), [3] + FIRST + SECOND + THIRD)

    def test_claims_dropped_ahead_of_the_mark_do_not(self):
        calls = [("drop", 1), ("mark",), ("drop", 2), ("back",)]
        self.assertEqual(answered(*calls), [[2], [1], [1], [4, 2]])
        self.assertEqual(claims_shown(*calls), [2] + SECOND + THIRD)

    def test_marks_within_marks(self):
        calls = [
            ("mark",), ("number",), ("drop", 1), ("mark",), ("array",), ("same", 4, 0), ("mark",), ("drop", 4),
            ("drop", 2), ("back",), ("back",), ("back",), ("back",),
        ]
        expected = [[1], [4], [2], [2], [5], [4], [3], [2], [1], [6, 3], [5, 2], [4, 3], [-7]]
        self.assertEqual(answered(*calls), expected)
        self.assertEqual(claims_shown(*calls), [3] + FIRST + SECOND + THIRD)

    def test_one_mark_behind_another_with_nothing_between(self):
        calls = [("mark",), ("mark",), ("drop", 3), ("back",), ("drop", 2), ("back",)]
        self.assertEqual(answered(*calls), [[1], [2], [2], [4, 3], [2], [4, 3]])

    def test_a_mark_is_not_changed_by_what_comes_behind_it(self):
        calls = [("mark",), ("back",), ("mark",), ("number",), ("same", 4, 4), ("drop", 1), ("back",), ("mark",)]
        calls += [("number",), ("same", 4, 4), ("back",)]
        expected = [[1], [4, 3], [1], [4], [4], [3], [4, 3], [1], [4], [5], [4, 3]]
        self.assertEqual(answered(*calls), expected)
        self.assertEqual(claims_shown(*calls), [3] + FIRST + SECOND + THIRD)

    def test_what_is_decided_goes_back_too(self):
        calls = [("mark",), ("differ", 0, 1), ("decide",), ("kinds",), ("back",), ("kinds",), ("surely", 0, 1)]
        self.assertEqual(answered(*calls), [[1], [4], [0, 1, 4], [0], [4, 3], [1], [1]])
        calls = [("mark",), ("drop", 1), ("kinds",), ("surely", 0, 1), ("back",), ("kinds",), ("surely", 0, 1)]
        self.assertEqual(answered(*calls), [[1], [2], [2], [2], [4, 3], [1], [1]])


if __name__ == "__main__":
    unittest.main()
