"""Promise 1: number, array, read, store, filled, pickNumber, pickArray."""

import unittest

from helper import ARRAY_CALLS, GREATEST, NUMBER_CALLS, ask

# Terms 0 and 1 are numbers, 2 and 3 arrays; each call names terms of the sorts that are meant.
START = [("number",), ("number",), ("array",), ("array",)]
GOOD = {
    "number": (),
    "array": (),
    "read": (2, 0),
    "store": (2, 0, 1),
    "filled": (0,),
    "pickNumber": (0, 1, 0, 1),
    "pickArray": (0, 1, 2, 3),
}


def with_name(call, at, name):
    """The good call, with another name at that place."""
    names = list(GOOD[call])
    names[at] = name
    return (call, *names)


def good(call):
    return (call, *GOOD[call])


def each_place():
    return [(call, at) for call in GOOD for at in range(len(GOOD[call]))]


class Names(unittest.TestCase):
    def test_each_call_answers_the_next_name(self):
        for call in GOOD:
            with self.subTest(call):
                self.assertEqual(ask(START + [good(call), good(call)]), [0, 1, 2, 3, 4, 5])

    def test_all_calls_behind_one_another(self):
        calls = START + [good(call) for call in GOOD]
        self.assertEqual(ask(calls), list(range(11)))

    def test_number_and_array_need_nothing(self):
        self.assertEqual(ask([("number",)]), [0])
        self.assertEqual(ask([("array",)]), [0])

    def test_one_term_may_be_named_more_than_once(self):
        calls = [("number",), ("pickNumber", 0, 0, 0, 0), ("filled", 0), ("store", 2, 0, 0), ("pickArray", 0, 0, 3, 3)]
        self.assertEqual(ask(calls), [0, 1, 2, 3, 4])

    def test_made_terms_are_of_their_sort(self):
        makes = {"number": 0, "array": 1, "read": 0, "store": 1, "filled": 1, "pickNumber": 0, "pickArray": 1}
        for call, sort in makes.items():
            with self.subTest(call):
                as_number, as_array = ask(START + [good(call), ("filled", 4), ("read", 4, 0)])[5:]
                self.assertEqual((as_number, as_array), (-2, 5) if sort else (5, -2))

    def test_a_made_term_may_be_named_at_each_place(self):
        for call, at in each_place():
            array_meant = GOOD[call][at] >= 2
            for maker in ARRAY_CALLS if array_meant else NUMBER_CALLS:
                with self.subTest(call=call, at=at, maker=maker):
                    self.assertEqual(ask(START + [good(maker), with_name(call, at, 4)])[4:], [4, 5])


class WrongTerms(unittest.TestCase):
    def test_a_name_that_is_not_there(self):
        for call, at in each_place():
            for name in (4, 5, 100, GREATEST):
                with self.subTest(call=call, at=at, name=name):
                    self.assertEqual(ask(START + [with_name(call, at, name)])[4:], [-2])

    def test_a_name_of_the_other_sort(self):
        for call, at in each_place():
            for name in (0, 1) if GOOD[call][at] >= 2 else (2, 3):
                with self.subTest(call=call, at=at, name=name):
                    self.assertEqual(ask(START + [with_name(call, at, name)])[4:], [-2])

    def test_nothing_is_there_at_the_beginning(self):
        for call in GOOD:
            if GOOD[call]:
                with self.subTest(call):
                    self.assertEqual(ask([(call, *[0] * len(GOOD[call]))]), [-2])

    def test_a_refusal_uses_no_name(self):
        for call, at in each_place():
            with self.subTest(call=call, at=at):
                calls = START + [with_name(call, at, 4), with_name(call, at, GREATEST), good(call), ("array",)]
                self.assertEqual(ask(calls)[4:], [-2, -2, 4, 5])

    def test_a_refused_term_is_not_there(self):
        calls = [("number",), ("read", 0, 0), ("filled", 1), ("pickNumber", 1, 1, 1, 1), ("array",), ("read", 1, 0)]
        self.assertEqual(ask(calls), [0, -2, -2, -2, 1, 2])


class TooMany(unittest.TestCase):
    # Two of each sort are there at the beginning.
    def test_six_numbers(self):
        for call in NUMBER_CALLS:
            for filler in NUMBER_CALLS:
                with self.subTest(call=call, filler=filler):
                    calls = START + [good(filler)] * 3 + [good(call)] * 3
                    self.assertEqual(ask(calls)[4:], [4, 5, 6, 7, -5, -5])

    def test_eight_arrays(self):
        for call in ARRAY_CALLS:
            for filler in ARRAY_CALLS:
                with self.subTest(call=call, filler=filler):
                    calls = START + [good(filler)] * 5 + [good(call)] * 3
                    self.assertEqual(ask(calls)[4:], [4, 5, 6, 7, 8, 9, -5, -5])

    def test_numbers_do_not_count_as_arrays(self):
        for call in ARRAY_CALLS:
            with self.subTest(call):
                calls = START + [("number",)] * 5 + [good(call)] * 7
                self.assertEqual(ask(calls)[4:], [4, 5, 6, 7, -5, 8, 9, 10, 11, 12, 13, -5])

    def test_arrays_do_not_count_as_numbers(self):
        for call in NUMBER_CALLS:
            with self.subTest(call):
                calls = START + [("array",)] * 7 + [good(call)] * 5
                self.assertEqual(ask(calls)[4:], [4, 5, 6, 7, 8, 9, -5, 10, 11, 12, 13, -5])

    def test_refused_terms_do_not_count(self):
        calls = START + [("read", 0, 0)] * 6 + [("filled", 2)] * 8 + [("number",)] * 5 + [("array",)] * 7
        expected = [-2] * 14 + [4, 5, 6, 7, -5] + [8, 9, 10, 11, 12, 13, -5]
        self.assertEqual(ask(calls)[4:], expected)

    def test_wrong_terms_are_told_ahead_of_too_many(self):
        full = START + [("number",)] * 4 + [("array",)] * 6
        for call, at in each_place():
            other = 0 if GOOD[call][at] >= 2 else 2
            for name in (other, 14, GREATEST):
                with self.subTest(call=call, at=at, name=name):
                    self.assertEqual(ask(full + [with_name(call, at, name), good(call)])[14:], [-2, -5])


if __name__ == "__main__":
    unittest.main()
