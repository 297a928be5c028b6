"""What decide answers: the first world that fits, or the claims at fault."""

import itertools
import unittest

from helper import last


def decide(*calls):
    return last(list(calls) + [("decide",)])


def numbers(many):
    return [("number",)] * many


def arrays(many):
    return [("array",)] * many


def each_pair(call, names):
    return [(call, t, u) for t, u in itertools.combinations(names, 2)]


class Numbers(unittest.TestCase):
    def test_no_term_at_all(self):
        self.assertEqual(decide(), [1, 0])

    def test_no_claim(self):
        for many in range(1, 7):
            self.assertEqual(decide(*numbers(many)), [1, 1] + [0] * many)

    def test_numbers_that_differ(self):
        self.assertEqual(decide(*numbers(2), ("differ", 0, 1)), [1, 2, 0, 1])
        self.assertEqual(decide(*numbers(2), ("differ", 1, 0)), [1, 2, 0, 1])
        self.assertEqual(decide(*numbers(3), ("differ", 0, 2)), [1, 2, 0, 0, 1])
        self.assertEqual(decide(*numbers(3), ("differ", 0, 1)), [1, 2, 0, 1, 0])
        self.assertEqual(decide(*numbers(3), ("differ", 0, 1), ("differ", 1, 2)), [1, 2, 0, 1, 0])
        self.assertEqual(decide(*numbers(3), *each_pair("differ", range(3))), [1, 3, 0, 1, 2])
        self.assertEqual(decide(*numbers(5), *each_pair("differ", range(5))), [1, 5, 0, 1, 2, 3, 4])

    def test_numbers_that_are_the_same(self):
        calls = [*numbers(4), ("same", 1, 3), ("differ", 0, 3)]
        self.assertEqual(decide(*calls), [1, 2, 0, 1, 0, 1])
        self.assertEqual(decide(*calls, ("differ", 2, 1), ("differ", 2, 0)), [1, 3, 0, 1, 2, 1])

    def test_all_six_differ(self):
        # Fifteen pairs are too many claims. Array 12 is as 6, filled with number 0, but where number 5 tells a place
        # that none of the others does.
        calls = [*numbers(6), ("filled", 0), ("store", 6, 5, 1), *[("store", 7 + name, name, 0) for name in range(5)]]
        found = decide(*calls, *each_pair("differ", range(5)), ("differ", 6, 12))
        self.assertEqual(found, [1, 6, 0, 1, 2, 3, 4, 5] + [0] * 7 + [0, 0, 0, 0, 0, 1, 0] * 6)

    def test_a_read_number(self):
        calls = [("array",), ("number",), ("read", 0, 1)]
        self.assertEqual(decide(*calls), [1, 1, 0, 0, 0, 0])
        self.assertEqual(decide(*calls, ("differ", 1, 2)), [1, 2, 1, 0, 0, 0, 1])

    def test_reads_at_places_that_differ(self):
        calls = [("array",), ("number",), ("number",), ("read", 0, 1), ("read", 0, 2)]
        self.assertEqual(decide(*calls, ("differ", 3, 4)), [1, 2, 0, 1, 0, 0, 1, 0, 1])
        self.assertEqual(decide(*calls, ("differ", 4, 3), ("differ", 1, 3)), [1, 2, 1, 0, 0, 0, 1, 1, 0])

    def test_a_read_of_what_is_read(self):
        calls = [("array",), ("number",), ("read", 0, 1), ("read", 0, 2), ("read", 0, 3)]
        self.assertEqual(decide(*calls, ("differ", 1, 2), ("differ", 2, 3)), [1, 2, 1, 0, 0, 0, 1, 0, 1])
        calls += each_pair("differ", (1, 2, 3))
        self.assertEqual(decide(*calls), [1, 3, 1, 2, 0, 0, 0, 1, 2, 0])

    def test_a_picked_number(self):
        calls = [*numbers(4), ("pickNumber", 0, 1, 2, 3)]
        self.assertEqual(decide(*calls), [1, 1, 0, 0, 0, 0, 0])
        self.assertEqual(decide(*calls, ("differ", 4, 2)), [1, 2, 0, 1, 0, 1, 1])
        self.assertEqual(decide(*calls, ("differ", 4, 3)), [1, 2, 0, 0, 0, 1, 0])
        self.assertEqual(decide(*calls, ("differ", 4, 3), ("differ", 4, 0)), [1, 2, 0, 0, 1, 0, 1])


class Arrays(unittest.TestCase):
    def test_no_number_at_all(self):
        for many in range(1, 9):
            self.assertEqual(decide(*arrays(many)), [1, 0] + [0] * many)

    def test_no_number_and_arrays_that_differ(self):
        self.assertEqual(decide(*arrays(2), ("differ", 0, 1)), [1, 0, 0, 1])
        self.assertEqual(decide(*arrays(3), ("differ", 2, 0)), [1, 0, 0, 0, 1])
        self.assertEqual(decide(*arrays(3), ("same", 0, 1), ("differ", 1, 2)), [1, 0, 0, 0, 1])
        self.assertEqual(decide(*arrays(5), *each_pair("differ", range(5))), [1, 0, 0, 1, 2, 3, 4])
        calls = [*arrays(8), *[("differ", 7, name) for name in range(7)], ("differ", 0, 1), ("differ", 1, 2)]
        self.assertEqual(decide(*calls), [1, 0, 0, 1, 0, 0, 0, 0, 0, 2])

    def test_arrays_that_no_claim_speaks_of(self):
        self.assertEqual(decide(("array",), ("number",), ("array",)), [1, 1, 0, 0, 0, 0, 0])
        self.assertEqual(decide(*numbers(2), ("differ", 0, 1), ("array",)), [1, 2, 0, 1, 0, 0, 0])

    def test_arrays_that_differ_do_so_from_k_on(self):
        self.assertEqual(decide(("number",), *arrays(2), ("differ", 1, 2)), [1, 1, 0, 0, 0, 0, 1])
        calls = [("number",), *arrays(3), *each_pair("differ", (1, 2, 3))]
        self.assertEqual(decide(*calls), [1, 1, 0, 0, 0, 0, 1, 0, 2])

    def test_arrays_that_can_differ_only_below_k(self):
        calls = [*numbers(2), ("array",), ("filled", 0), ("store", 3, 0, 1), ("same", 2, 4)]
        self.assertEqual(decide(*calls), [1, 1, 0, 0, 0, 0, 0, 0, 0, 0])
        self.assertEqual(decide(*calls, ("differ", 2, 3)), [1, 2, 0, 1, 1, 0, 0, 0, 0, 0, 1, 0, 0])

    def test_an_array_that_differs_from_a_filled_one(self):
        self.assertEqual(decide(("number",), ("filled", 0), ("array",), ("differ", 1, 2)), [1, 1, 0, 0, 0, 0, 1])
        self.assertEqual(decide(("array",), ("number",), ("filled", 1), ("differ", 0, 2)), [1, 1, 0, 1, 0, 0, 0])

    def test_an_array_that_differs_from_a_stored_one(self):
        # A number that no term has: k itself.
        calls = [("number",), ("array",), ("store", 1, 0, 0), ("differ", 1, 2)]
        self.assertEqual(decide(*calls), [1, 1, 0, 1, 0, 0, 0])
        calls = [*numbers(2), ("array",), ("store", 2, 0, 1), ("differ", 2, 3), ("differ", 0, 1)]
        self.assertEqual(decide(*calls), [1, 2, 0, 1, 0, 0, 0, 1, 0, 0])

    def test_a_number_that_is_passed_over_as_it_is_there_already(self):
        calls = [("number",), *arrays(2), ("filled", 0), *each_pair("differ", (1, 2, 3))]
        self.assertEqual(decide(*calls), [1, 1, 0, 0, 1, 0, 2, 0, 0])

    def test_each_stored_where_it_differs(self):
        calls = [("number",), *arrays(2), ("store", 1, 0, 0), ("store", 2, 0, 0), ("differ", 1, 3), ("differ", 2, 4)]
        self.assertEqual(decide(*calls), [1, 1, 0, 1, 0, 1, 0, 0, 0, 0, 0])
        self.assertEqual(decide(*calls, ("differ", 1, 2)), [1, 1, 0, 1, 0, 1, 1, 0, 0, 0, 1])
        self.assertEqual(decide(*calls, ("differ", 1, 2), ("same", 3, 4)), [1, 1, 0, 1, 0, 2, 0, 0, 0, 0, 0])

    def test_an_array_told_first_gives_way_to_one_that_can_not_differ_itself(self):
        calls = [("number",), *arrays(2), ("filled", 0), ("same", 2, 3), ("differ", 1, 2)]
        self.assertEqual(decide(*calls), [1, 1, 0, 0, 1, 0, 0, 0, 0])

    def test_arrays_that_are_the_same(self):
        calls = [*numbers(2), *arrays(2), ("store", 2, 0, 1), ("same", 3, 4), ("differ", 0, 1)]
        self.assertEqual(decide(*calls), [1, 2, 0, 1, 0, 0, 0, 1, 0, 0, 1, 0, 0])
        calls = [*numbers(2), ("array",), ("filled", 1), ("same", 2, 3), ("differ", 0, 1)]
        self.assertEqual(decide(*calls), [1, 2, 0, 1, 1, 1, 1, 1, 1, 1])

    def test_a_picked_array(self):
        calls = [*numbers(2), *arrays(2), ("pickArray", 0, 1, 2, 3)]
        self.assertEqual(decide(*calls, ("differ", 2, 4)), [1, 2, 0, 1, 0, 0, 0, 0, 0, 1, 0, 0, 1])
        self.assertEqual(decide(*calls, ("differ", 3, 4)), [1, 1, 0, 0, 0, 0, 0, 1, 0, 0])

    def test_terms_of_every_sort(self):
        calls = [
            *numbers(2), *arrays(2), ("read", 2, 0), ("store", 2, 1, 4), ("filled", 1), ("pickNumber", 0, 4, 0, 1),
            ("pickArray", 0, 1, 5, 6),
        ]
        self.assertEqual(decide(*calls), [1, 1, 0, 0, 0, 0, 0, 0, 0, 0, 0, 0, 0, 0, 0, 0])
        claims = [("differ", 0, 1), ("differ", 0, 4), ("same", 8, 6), ("differ", 5, 2), ("differ", 3, 6)]
        expected = [1, 2, 0, 1, 1, 0, 0, 0, 0, 0, 1, 1, 1, 0, 1, 1, 1, 1, 1, 1, 1]
        self.assertEqual(decide(*calls, *claims), expected)


class AtFault(unittest.TestCase):
    def test_one_claim(self):
        self.assertEqual(decide(*numbers(1), ("differ", 0, 0)), [0, 1])
        self.assertEqual(decide(*arrays(1), ("differ", 0, 0)), [0, 1])

    def test_a_claim_and_its_contrary(self):
        self.assertEqual(decide(*numbers(2), ("same", 0, 1), ("differ", 0, 1)), [0, 1, 2])
        self.assertEqual(decide(*arrays(2), ("differ", 1, 0), ("same", 0, 1)), [0, 1, 2])

    def test_a_chain(self):
        for terms in (numbers(4), arrays(4)):
            calls = [*terms, ("same", 0, 1), ("differ", 0, 3), ("same", 3, 2), ("same", 1, 2)]
            self.assertEqual(decide(*calls), [0, 1, 2, 3, 4])

    def test_claims_that_are_not_at_fault_are_left_out(self):
        calls = [*numbers(4), ("same", 2, 3), ("same", 0, 1), ("differ", 0, 2), ("differ", 1, 0), ("differ", 1, 3)]
        self.assertEqual(decide(*calls), [0, 2, 4])

    def test_of_several_sets_the_last_ones_are_left(self):
        same, differ = ("same", 0, 1), ("differ", 0, 1)
        self.assertEqual(decide(*numbers(2), same, differ, differ), [0, 1, 3])
        self.assertEqual(decide(*numbers(2), differ, same, same), [0, 1, 3])
        self.assertEqual(decide(*numbers(2), same, differ, same, differ), [0, 3, 4])
        self.assertEqual(decide(*numbers(2), same, ("differ", 1, 1), differ), [0, 2])
        self.assertEqual(decide(*numbers(2), same, differ, ("differ", 1, 1)), [0, 3])
        calls = [*numbers(4), same, differ, ("same", 2, 3), ("differ", 2, 3)]
        self.assertEqual(decide(*calls), [0, 3, 4])

    def test_sets_that_share_claims(self):
        calls = [*numbers(3), ("same", 0, 1), ("same", 1, 2), ("same", 0, 2), ("differ", 0, 2)]
        self.assertEqual(decide(*calls), [0, 3, 4])
        calls = [*numbers(3), ("same", 0, 2), ("same", 0, 1), ("same", 1, 2), ("differ", 0, 2)]
        self.assertEqual(decide(*calls), [0, 2, 3, 4])

    def test_twelve_claims(self):
        calls = [*numbers(2), *[("same", 0, 1)] * 11, ("differ", 0, 1)]
        self.assertEqual(decide(*calls), [0, 11, 12])
        calls = [*arrays(8), *[("same", name, name + 1) for name in range(7)], *[("same", 0, 0)] * 4, ("differ", 0, 7)]
        self.assertEqual(decide(*calls), [0, 1, 2, 3, 4, 5, 6, 7, 12])

    def test_a_claim_whose_number_is_not_its_place(self):
        same, differ = ("same", 0, 1), ("differ", 0, 1)
        calls = [*numbers(2), ("same", 1, 1), same, ("drop", 1), ("same", 0, 0), differ]
        self.assertEqual(decide(*calls), [0, 2, 4])
        calls = [*numbers(2), same, differ, ("mark",), same, differ, ("drop", 1), ("back",), ("drop", 2), differ]
        self.assertEqual(decide(*calls), [0, 1, 5])
        self.assertEqual(decide(*calls, ("drop", 5)), [1, 1, 0, 0])

    def test_what_is_stored_is_read(self):
        calls = [*numbers(2), ("array",), ("store", 2, 0, 1), ("read", 3, 0), ("same", 0, 1), ("differ", 4, 1)]
        self.assertEqual(decide(*calls), [0, 2])

    def test_what_is_stored_elsewhere_is_not_read(self):
        calls = [*numbers(3), ("array",), ("store", 3, 0, 1), ("read", 4, 2), ("read", 3, 2), ("differ", 5, 6)]
        self.assertEqual(decide(*calls), [1, 2, 0, 0, 0, 1, 0, 0, 0, 0, 0, 0, 1])
        self.assertEqual(decide(*calls, ("same", 1, 1), ("differ", 0, 2)), [0, 1, 3])

    def test_a_filled_array_has_its_number_at_every_place(self):
        calls = [*numbers(2), ("filled", 0), ("read", 2, 1), ("array",), ("same", 4, 2), ("read", 4, 0)]
        self.assertEqual(decide(*calls, ("differ", 3, 0)), [0, 2])
        self.assertEqual(decide(*calls, ("differ", 5, 0)), [0, 1, 2])

    def test_filled_arrays_are_the_same_if_their_numbers_are(self):
        calls = [*numbers(2), ("filled", 0), ("filled", 1)]
        self.assertEqual(decide(*calls, ("same", 2, 3), ("differ", 0, 1)), [0, 1, 2])
        self.assertEqual(decide(*calls, ("differ", 2, 3), ("same", 0, 1)), [0, 1, 2])

    def test_a_stored_one_is_never_filled_with_something_else(self):
        # There are places without end: one of them is not stored to.
        calls = [*numbers(2), ("filled", 0), ("store", 2, 0, 1), ("store", 3, 1, 1), ("filled", 1), ("same", 4, 5)]
        self.assertEqual(decide(*calls), [1, 1, 0, 0, 0, 0, 0, 0, 0, 0, 0, 0])
        self.assertEqual(decide(*calls, ("differ", 0, 1)), [0, 1, 2])

    def test_storing_what_is_there_changes_nothing(self):
        calls = [("number",), ("array",), ("read", 1, 0), ("store", 1, 0, 2), ("differ", 1, 3)]
        self.assertEqual(decide(*calls), [0, 1])

    def test_arrays_are_the_same_only_if_they_are_so_at_every_place(self):
        calls = [("number",), *arrays(2), ("read", 1, 0), ("read", 2, 0), ("same", 1, 2), ("differ", 3, 4)]
        self.assertEqual(decide(*calls), [0, 1, 2])
        calls = [("number",), *arrays(2), ("read", 1, 0), ("read", 2, 0), ("differ", 1, 2), ("same", 3, 4)]
        self.assertEqual(decide(*calls), [1, 1, 0, 0, 0, 0, 1, 0, 0])

    def test_picked_ones(self):
        calls = [*numbers(2), *arrays(2), ("pickArray", 0, 1, 2, 3), ("pickNumber", 0, 1, 0, 1)]
        self.assertEqual(decide(*calls, ("differ", 5, 1)), [0, 1])
        self.assertEqual(decide(*calls, ("same", 0, 1), ("differ", 4, 2)), [0, 1, 2])
        self.assertEqual(decide(*calls, ("differ", 4, 3), ("differ", 1, 0)), [0, 1, 2])
        self.assertEqual(decide(*calls, ("differ", 4, 3), ("differ", 4, 2)), [0, 1, 2])


if __name__ == "__main__":
    unittest.main()
