"""How many kinds of worlds fit."""

import unittest

from helper import last


def kinds(*calls):
    found = last(list(calls) + [("kinds",)])
    assert len(found) == 1, found
    return found[0]


def numbers(many):
    return [("number",)] * many


class Kinds(unittest.TestCase):
    def test_no_number(self):
        self.assertEqual(kinds(), 1)
        self.assertEqual(kinds(("array",), ("array",)), 1)
        self.assertEqual(kinds(("array",), ("array",), ("differ", 0, 1)), 1)
        self.assertEqual(kinds(("array",), ("array",), ("same", 0, 1)), 1)

    def test_unknown_numbers_without_claims(self):
        for many, expected in ((1, 1), (2, 2), (3, 5), (4, 15), (5, 52), (6, 203)):
            self.assertEqual(kinds(*numbers(many)), expected)
            self.assertEqual(kinds(("array",), *numbers(many), ("array",), ("differ", 0, many + 1)), expected)

    def test_no_world_fits(self):
        self.assertEqual(kinds(("array",), ("differ", 0, 0)), 0)
        self.assertEqual(kinds(*numbers(3), ("same", 0, 1), ("same", 1, 2), ("differ", 0, 2)), 0)
        self.assertEqual(kinds(*numbers(6), ("array",), ("differ", 6, 6)), 0)

    def test_numbers_with_claims(self):
        self.assertEqual(kinds(*numbers(2), ("same", 0, 1)), 1)
        self.assertEqual(kinds(*numbers(2), ("differ", 0, 1)), 1)
        self.assertEqual(kinds(*numbers(3), ("same", 0, 2)), 2)
        self.assertEqual(kinds(*numbers(3), ("differ", 0, 2)), 3)
        self.assertEqual(kinds(*numbers(6), ("same", 5, 0)), 52)
        self.assertEqual(kinds(*numbers(6), ("differ", 2, 3)), 203 - 52)
        self.assertEqual(kinds(*numbers(6), ("same", 0, 1), ("same", 2, 3), ("same", 4, 5), ("differ", 1, 2)), 3)

    def test_reads(self):
        calls = [*numbers(2), ("array",), ("read", 2, 0), ("read", 2, 1)]
        self.assertEqual(kinds(*calls), 12)
        self.assertEqual(kinds(*calls, ("same", 0, 1)), 2)
        self.assertEqual(kinds(*calls, ("differ", 3, 4)), 7)

    def test_stores(self):
        calls = [*numbers(3), ("array",), ("store", 3, 0, 1), ("read", 4, 2)]
        self.assertEqual(kinds(*calls), 12)
        self.assertEqual(kinds(*calls, ("same", 0, 2)), 2)
        self.assertEqual(kinds(*calls, ("differ", 5, 1)), 7)

    def test_filled(self):
        self.assertEqual(kinds(*numbers(2), ("filled", 0), ("read", 2, 1)), 2)
        self.assertEqual(kinds(*numbers(2), ("filled", 0), ("filled", 1), ("same", 2, 3)), 1)
        self.assertEqual(kinds(*numbers(3), ("filled", 0), ("filled", 1), ("differ", 3, 4)), 3)

    def test_picked(self):
        self.assertEqual(kinds(*numbers(2), ("pickNumber", 0, 1, 0, 1)), 2)
        self.assertEqual(kinds(*numbers(4), ("pickNumber", 0, 1, 2, 3)), 15)
        calls = [*numbers(2), ("filled", 0), ("filled", 1), ("pickArray", 0, 1, 3, 2), ("read", 4, 1)]
        self.assertEqual(kinds(*calls), 2)
        self.assertEqual(kinds(*calls, ("differ", 4, 2)), 0)

    def test_arrays_that_are_the_same(self):
        calls = [("number",), ("array",), ("array",), ("read", 1, 0), ("read", 2, 0)]
        self.assertEqual(kinds(*calls), 5)
        self.assertEqual(kinds(*calls, ("same", 1, 2)), 2)
        calls = [*numbers(3), ("array",), ("store", 3, 0, 1), ("store", 3, 0, 2), ("same", 4, 5)]
        self.assertEqual(kinds(*calls), 2)

    def test_arrays_that_differ(self):
        calls = [("number",), ("array",), ("array",), ("read", 1, 0), ("read", 2, 0)]
        self.assertEqual(kinds(*calls, ("differ", 1, 2)), 5)
        calls = [*numbers(2), ("array",), ("store", 2, 0, 1), ("read", 2, 0), ("differ", 2, 3)]
        self.assertEqual(kinds(*calls), 3)
        calls = [*numbers(3), ("array",), ("store", 3, 0, 1), ("store", 3, 0, 2), ("differ", 4, 5)]
        self.assertEqual(kinds(*calls), 3)

    def test_terms_that_are_gone_do_not_count(self):
        calls = [*numbers(2), ("mark",), *numbers(3), ("differ", 0, 1)]
        self.assertEqual(kinds(*calls), 52 - 15)
        self.assertEqual(kinds(*calls, ("back",)), 2)


if __name__ == "__main__":
    unittest.main()
