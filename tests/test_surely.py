"""Promise 4: surely."""

import unittest

from helper import GREATEST, ask, last

# Terms 0 and 1 are numbers, 2 and 3 arrays.
START = [("number",), ("number",), ("array",), ("array",)]
PAIRS = ((0, 1), (1, 0), (2, 3), (3, 2))


def surely(*calls):
    """What the last of these calls answers behind the start; it answers one number."""
    found = last(START + list(calls))
    assert len(found) == 1, found
    return found[0]


class Unknown(unittest.TestCase):
    def test_without_claims(self):
        for t, u in PAIRS:
            self.assertEqual(surely(("surely", t, u)), 2)
        for t in range(4):
            self.assertEqual(surely(("surely", t, t)), 1)

    def test_what_is_claimed_is_sure(self):
        for t, u in PAIRS:
            self.assertEqual(surely(("same", t, u), ("surely", t, u)), 1)
            self.assertEqual(surely(("same", u, t), ("surely", t, u)), 1)
            self.assertEqual(surely(("differ", t, u), ("surely", t, u)), 0)
            self.assertEqual(surely(("differ", u, t), ("surely", t, u)), 0)

    def test_other_claims_do_not_matter(self):
        self.assertEqual(surely(("same", 2, 3), ("surely", 0, 1)), 2)
        self.assertEqual(surely(("differ", 0, 1), ("surely", 2, 3)), 2)
        self.assertEqual(surely(("same", 0, 1), ("drop", 1), ("surely", 0, 1)), 2)

    def test_through_a_third(self):
        for call, t in (("number", 0), ("array", 2)):
            calls = [(call,), ("same", t, 4), ("same", 4, t + 1)]
            self.assertEqual(surely(*calls, ("surely", t, t + 1)), 1)
            calls = [(call,), ("same", t, 4), ("differ", 4, t + 1)]
            self.assertEqual(surely(*calls, ("surely", t, t + 1)), 0)
            calls = [(call,), ("differ", t, 4), ("differ", 4, t + 1)]
            self.assertEqual(surely(*calls, ("surely", t, t + 1)), 2)


class Made(unittest.TestCase):
    def test_read_and_store(self):
        calls = [("store", 2, 0, 1), ("read", 4, 0), ("read", 4, 1), ("read", 2, 1)]
        self.assertEqual(surely(*calls, ("surely", 5, 1)), 1)
        self.assertEqual(surely(*calls, ("surely", 4, 2)), 2)
        self.assertEqual(surely(*calls, ("surely", 6, 7)), 2)
        self.assertEqual(surely(*calls, ("differ", 0, 1), ("surely", 6, 7)), 1)
        self.assertEqual(surely(*calls, ("differ", 7, 1), ("surely", 4, 2)), 2)
        self.assertEqual(surely(*calls, ("differ", 7, 1), ("same", 0, 1), ("surely", 4, 2)), 0)

    def test_storing_twice(self):
        calls = [("store", 2, 0, 1), ("store", 4, 0, 1), ("store", 4, 1, 0)]
        self.assertEqual(surely(*calls, ("surely", 4, 5)), 1)
        self.assertEqual(surely(*calls, ("surely", 4, 6)), 2)
        self.assertEqual(surely(*calls, ("same", 0, 1), ("surely", 4, 6)), 1)

    def test_storing_at_two_places_in_either_order(self):
        calls = [("store", 2, 0, 0), ("store", 4, 1, 1), ("store", 2, 1, 1), ("store", 6, 0, 0)]
        self.assertEqual(surely(*calls, ("surely", 5, 7)), 1)
        calls = [("store", 2, 0, 1), ("store", 4, 1, 0), ("store", 2, 1, 0), ("store", 6, 0, 1)]
        self.assertEqual(surely(*calls, ("differ", 0, 1), ("surely", 5, 7)), 1)

    def test_stored_numbers_that_differ(self):
        calls = [("store", 2, 0, 0), ("store", 3, 0, 1)]
        self.assertEqual(surely(*calls, ("surely", 4, 5)), 2)
        self.assertEqual(surely(*calls, ("differ", 0, 1), ("surely", 4, 5)), 0)
        self.assertEqual(surely(*calls, ("same", 0, 1), ("surely", 4, 5)), 2)
        self.assertEqual(surely(*calls, ("same", 0, 1), ("same", 2, 3), ("surely", 4, 5)), 1)

    def test_filled(self):
        calls = [("filled", 0), ("filled", 1), ("read", 4, 1), ("store", 4, 1, 0)]
        self.assertEqual(surely(*calls, ("surely", 4, 5)), 2)
        self.assertEqual(surely(*calls, ("differ", 0, 1), ("surely", 4, 5)), 0)
        self.assertEqual(surely(*calls, ("same", 0, 1), ("surely", 4, 5)), 1)
        self.assertEqual(surely(*calls, ("surely", 6, 0)), 1)
        self.assertEqual(surely(*calls, ("surely", 7, 4)), 1)
        self.assertEqual(surely(*calls, ("same", 4, 5), ("surely", 0, 1)), 1)

    def test_filled_ones_that_differ_do_so_however_much_is_stored(self):
        calls = [("filled", 0), ("store", 4, 0, 1), ("store", 5, 1, 1), ("filled", 1)]
        self.assertEqual(surely(*calls, ("surely", 6, 7)), 2)
        self.assertEqual(surely(*calls, ("differ", 0, 1), ("surely", 6, 7)), 0)

    def test_picked(self):
        calls = [("pickNumber", 0, 0, 1, 0), ("pickNumber", 0, 1, 0, 1), ("pickArray", 0, 1, 2, 3)]
        self.assertEqual(surely(*calls, ("surely", 4, 1)), 1)
        self.assertEqual(surely(*calls, ("surely", 5, 1)), 1)
        self.assertEqual(surely(*calls, ("surely", 6, 2)), 2)
        self.assertEqual(surely(*calls, ("same", 0, 1), ("surely", 6, 2)), 1)
        self.assertEqual(surely(*calls, ("differ", 0, 1), ("surely", 6, 3)), 1)
        self.assertEqual(surely(*calls, ("differ", 0, 1), ("surely", 6, 2)), 2)
        self.assertEqual(surely(*calls, ("differ", 0, 1), ("differ", 2, 3), ("surely", 6, 2)), 0)

    def test_arrays_that_differ_make_numbers_differ(self):
        calls = [("read", 2, 0), ("store", 2, 0, 1), ("differ", 2, 5)]
        self.assertEqual(surely(*calls, ("surely", 4, 1)), 0)
        self.assertEqual(surely(*calls, ("surely", 0, 1)), 2)

    def test_arrays_that_are_the_same_make_numbers_the_same(self):
        calls = [("read", 2, 0), ("read", 3, 1), ("same", 2, 3)]
        self.assertEqual(surely(*calls, ("surely", 4, 5)), 2)
        self.assertEqual(surely(*calls, ("same", 0, 1), ("surely", 4, 5)), 1)
        self.assertEqual(surely(*calls, ("differ", 4, 5), ("surely", 0, 1)), 0)

    def test_with_all_that_can_be_there(self):
        calls = [("number",)] * 4 + [("array",)] * 6 + [("differ", 0, 1)] * 11 + [("same", 2, 3)]
        self.assertEqual(surely(*calls, ("surely", 0, 1)), 0)
        self.assertEqual(surely(*calls, ("surely", 2, 3)), 1)
        self.assertEqual(surely(*calls, ("surely", 4, 7)), 2)
        self.assertEqual(surely(*calls, ("surely", 8, 13)), 2)


class Refusals(unittest.TestCase):
    def test_a_term_that_is_not_there(self):
        for there in range(4):
            for name in (4, 5, GREATEST):
                for t, u in ((there, name), (name, there), (name, name)):
                    with self.subTest(t=t, u=u):
                        self.assertEqual(surely(("surely", t, u)), -2)
        self.assertEqual(ask([("surely", 0, 0)]), [-2])

    def test_one_is_a_number_and_one_an_array(self):
        for t, u in ((0, 2), (2, 0), (1, 3), (3, 1)):
            self.assertEqual(surely(("surely", t, u)), -2)

    def test_no_world_fits(self):
        for claims in ([("differ", 0, 0)], [("differ", 2, 2)], [("same", 2, 3), ("same", 0, 1), ("differ", 2, 3)]):
            for t, u in PAIRS + ((0, 0), (2, 2)):
                with self.subTest(claims=claims, t=t, u=u):
                    self.assertEqual(surely(*claims, ("surely", t, u)), -6)

    def test_wrong_terms_are_told_ahead_of_no_world(self):
        for t, u in ((0, 4), (4, 4), (GREATEST, 2), (0, 2), (3, 1)):
            self.assertEqual(surely(("differ", 0, 0), ("surely", t, u)), -2)

    def test_a_world_fits_again(self):
        calls = [("mark",), ("differ", 0, 0), ("surely", 2, 3)]
        self.assertEqual(surely(*calls), -6)
        self.assertEqual(surely(*calls, ("back",), ("surely", 2, 3)), 2)
        self.assertEqual(surely(*calls, ("drop", 1), ("surely", 2, 3)), 2)

    def test_a_refusal_leaves_all_as_it_was(self):
        calls = START + [("differ", 0, 0)]
        refused = [("surely", 0, 1), ("surely", 0, 2), ("surely", 4, 4)]
        self.assertEqual(last(calls + refused + [("shows",)]), last(calls + [("shows",)]))
        self.assertEqual(ask(calls + refused + [("number",), ("same", 0, 0), ("mark",)])[-3:], [4, 2, 1])


if __name__ == "__main__":
    unittest.main()
