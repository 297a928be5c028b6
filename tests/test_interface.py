"""The interface: how calls stand in the list, and what is given back."""

import unittest

from helper import GREATEST, flat
from sameworlds.claims import answers

ALL_CALLS = [
    ("number",), ("array",), ("read", 1, 0), ("store", 1, 0, 2), ("filled", 2),
    ("pickNumber", 0, 2, 0, 2), ("pickArray", 0, 2, 3, 4), ("same", 3, 6), ("same", 0, 1),
]
# Six numbers, eight arrays, twelve claims, and refusals of both sorts: forty calls.
LONGEST = (
    [("number",)] * 7 + [("array",)] * 9 + [("same", 0, 1)] * 13
    + [("pickNumber", 0, 1, 2, 3), ("pickArray", 0, 1, 6, 7)] * 5 + [("pickArray", GREATEST, 0, 6, 6)]
)
LONGEST_ANSWERS = list(range(6)) + [-5] + list(range(6, 14)) + [-5] + list(range(1, 13)) + [-5] + [-5] * 10 + [-2]


class Form(unittest.TestCase):
    def test_each_call_as_it_stands_in_the_list(self):
        calls = [0, 1, 2, 1, 0, 3, 1, 0, 2, 4, 2, 5, 0, 2, 0, 2, 6, 0, 2, 3, 4, 7, 3, 6, 7, 0, 1]
        self.assertEqual(flat(ALL_CALLS), calls)
        self.assertEqual(answers(calls), [1, 0, 1, 1, 1, 2, 1, 3, 1, 4, 1, 5, 1, 6, 1, 1, 1, -2])

    def test_one_call(self):
        self.assertEqual(answers([0]), [1, 0])
        self.assertEqual(answers([1]), [1, 0])
        self.assertEqual(answers([7, 0, 0]), [1, -2])

    def test_a_refused_call_is_passed_over_whole(self):
        for call, size in ((2, 2), (3, 3), (4, 1), (5, 4), (6, 4), (7, 2)):
            with self.subTest(call):
                self.assertEqual(answers([call] + [GREATEST] * size + [0]), [1, -2, 1, 0])
                self.assertEqual(answers([call] + [0] * size + [1]), [1, -2, 1, 0])

    def test_a_list_of_whole_numbers_is_given_back(self):
        for calls in (ALL_CALLS, LONGEST):
            given = answers(flat(calls))
            self.assertIs(type(given), list)
            for number in given:
                self.assertIs(type(number), int)

    def test_forty_calls(self):
        self.assertEqual(len(LONGEST), 40)
        given = answers(flat(LONGEST))
        self.assertEqual(given[0::2], [1] * 40)
        self.assertEqual(given[1::2], LONGEST_ANSWERS)

    def test_two_hundred_numbers(self):
        for call in (5, 6):
            for name in (0, GREATEST):
                calls = [call, name, name, name, name] * 40
                self.assertEqual(len(calls), 200)
                self.assertEqual(answers(calls), [1, -2] * 40)


class Nothing(unittest.TestCase):
    def test_the_list_handed_in_is_not_changed(self):
        for calls in (ALL_CALLS, LONGEST):
            handed = flat(calls)
            answers(handed)
            self.assertEqual(handed, flat(calls))

    def test_the_list_handed_in_is_not_changed_for_a_while_either(self):
        class Watched(list):
            def refuse(self, *args, **kwargs):
                raise AssertionError("the list is changed")

            append = extend = insert = pop = remove = reverse = sort = clear = refuse
            __setitem__ = __delitem__ = __iadd__ = __imul__ = refuse

        self.assertEqual(answers(Watched(flat(LONGEST))), answers(flat(LONGEST)))

    def test_nothing_is_kept_from_one_time_to_the_next(self):
        first = answers(flat(ALL_CALLS))
        answers(flat(LONGEST))
        self.assertEqual(answers(flat(ALL_CALLS)), first)
        self.assertEqual(answers([7, 0, 0, 0, 7, 0, 0]), [1, -2, 1, 0, 1, 1])

    def test_what_is_given_back_is_new_each_time(self):
        first = answers([0, 1])
        first.append(9)
        self.assertEqual(answers([0, 1]), [1, 0, 1, 1])


if __name__ == "__main__":
    unittest.main()
