"""The interface: how calls stand in the list, and what is given back."""

import unittest

from helper import CALLS, GREATEST, apart, ask_each, flat
from sameworlds.claims import answers

ALL_CALLS = [
    ("number",), ("array",), ("mark",), ("read", 1, 0), ("store", 1, 0, 2), ("filled", 2), ("pickNumber", 0, 2, 0, 2),
    ("pickArray", 0, 2, 3, 4), ("same", 3, 6), ("differ", 0, 2), ("same", 0, 1), ("decide",), ("surely", 0, 5),
    ("kinds",), ("drop", 2), ("shows",), ("differ", 5, 5), ("decide",), ("surely", 1, 1), ("back",), ("back",),
]
ALL_FLAT = [
    0, 1, 10, 2, 1, 0, 3, 1, 0, 2, 4, 2, 5, 0, 2, 0, 2, 6, 0, 2, 3, 4, 7, 3, 6, 8, 0, 2, 7, 0, 1, 12, 13, 0, 5,
    14, 9, 2, 15, 8, 5, 5, 12, 13, 1, 1, 11, 11,
]
# Six numbers, eight arrays, twelve claims, and refusals of both sorts: forty calls.
LONGEST = (
    [("number",)] * 7 + [("array",)] * 9 + [("same", 0, 1)] * 13
    + [("pickNumber", 0, 1, 2, 3), ("pickArray", 0, 1, 6, 7)] * 5 + [("pickArray", GREATEST, 0, 6, 6)]
)
LONGEST_ANSWERS = list(range(6)) + [-5] + list(range(6, 14)) + [-5] + list(range(1, 13)) + [-5] + [-5] * 10 + [-2]
# Six numbers, eight arrays and twelve claims.
GREAT_FITS = (
    [("number",)] * 6 + [("array",)] * 2 + [("store", 6, 0, 1), ("store", 8, 1, 2), ("store", 9, 2, 3)]
    + [("store", 7, 3, 4), ("filled", 5), ("pickArray", 4, 5, 6, 12)]
    + [("differ", 6, 7)] * 3 + [("differ", 8, 9), ("differ", 9, 10), ("differ", 11, 7), ("differ", 13, 12)] * 2
    + [("same", 13, 6)]
)
GREAT_FAILS = (
    [("number",)] * 6 + [("array",)] * 8 + [("same", name, name + 1) for name in range(6, 13)] + [("same", 6, 8)] * 4
    + [("differ", 6, 13)]
)


class Form(unittest.TestCase):
    def test_each_call_as_it_stands_in_the_list(self):
        self.assertEqual({call[0] for call in ALL_CALLS}, set(CALLS))
        self.assertEqual(flat(ALL_CALLS), ALL_FLAT)

    def test_what_each_call_answers(self):
        found = apart(answers(ALL_FLAT))
        self.assertEqual(found[:11], [[0], [1], [1], [2], [3], [4], [5], [6], [1], [2], [-2]])
        # Number 0 is 0 and what's read, 2, is 1, so that 5, picked, is 1 and 6 is 4, filled with 1.
        arrays = [1, 1, 1]
        self.assertEqual(found[11], [1, 2, 0] + arrays + [1] + arrays + arrays + [1] + arrays)
        self.assertEqual(found[12:15], [[0], [1], [1]])
        terms = [[0, 0, 0, 0, 0], [1, 0, 0, 0, 0], [2, 1, 0, 0, 0], [3, 1, 0, 2, 0], [4, 2, 0, 0, 0]]
        terms += [[5, 0, 2, 0, 2], [6, 0, 2, 3, 4]]
        self.assertEqual(found[15], [7] + sum(terms, []) + [1, 1, 1, 3, 6])
        self.assertEqual(found[16:], [[3], [0, 3], [-6], [2, 0], [-7]])

    def test_one_call(self):
        self.assertEqual(answers([0]), [1, 0])
        self.assertEqual(answers([1]), [1, 0])
        self.assertEqual(answers([7, 0, 0]), [1, -2])
        self.assertEqual(answers([8, 0, 0]), [1, -2])
        self.assertEqual(answers([9, 1]), [1, -3])
        self.assertEqual(answers([10]), [1, 1])
        self.assertEqual(answers([11]), [1, -7])
        self.assertEqual(answers([12]), [2, 1, 0])
        self.assertEqual(answers([13, 0, 0]), [1, -2])
        self.assertEqual(answers([14]), [1, 1])
        self.assertEqual(answers([15]), [2, 0, 0])

    def test_a_refused_call_is_passed_over_whole(self):
        for call, size in ((2, 2), (3, 3), (4, 1), (5, 4), (6, 4), (7, 2), (8, 2), (9, 1), (11, 0), (13, 2)):
            refusal = {9: -3, 11: -7}.get(call, -2)
            with self.subTest(call):
                self.assertEqual(answers([call] + [GREATEST] * size + [0]), [1, refusal, 1, 0])
                self.assertEqual(answers([call] + [0] * size + [1]), [1, refusal, 1, 0])

    def test_a_list_of_whole_numbers_is_given_back(self):
        looks = [("decide",), ("kinds",), ("surely", 0, 1), ("surely", 6, 7), ("surely", 0, 0), ("shows",)]
        for calls in (ALL_CALLS, LONGEST, GREAT_FITS + looks, GREAT_FAILS + looks):
            given = answers(flat(calls))
            self.assertIs(type(given), list)
            for number in given:
                self.assertIs(type(number), int)


class Size(unittest.TestCase):
    def test_forty_calls(self):
        self.assertEqual(len(LONGEST), 40)
        given = answers(flat(LONGEST))
        self.assertEqual(given[0::2], [1] * 40)
        self.assertEqual(given[1::2], LONGEST_ANSWERS)

    def test_forty_calls_that_take_no_numbers(self):
        for call, expected in ((12, [2, 1, 0]), (14, [1, 1]), (15, [2, 0, 0]), (11, [1, -7])):
            self.assertEqual(answers([call] * 40), expected * 40)

    def test_two_hundred_numbers(self):
        for call in (5, 6):
            for name in (0, GREATEST):
                calls = [call, name, name, name, name] * 40
                self.assertEqual(len(calls), 200)
                self.assertEqual(answers(calls), [1, -2] * 40)

    def check_again_and_again(self, calls, looks):
        """Forty calls in all: the looks one behind another, as often as there's room; each answers the same."""
        self.assertEqual(len(calls), 26)
        found = ask_each(calls + (looks * 14)[:14])[26:]
        self.assertEqual(len(found), 14)
        for place, numbers in enumerate(found):
            self.assertEqual(numbers, found[place % len(looks)])
        return found[:len(looks)]

    def test_a_world_of_all_that_can_be_there(self):
        looks = [("decide",), ("kinds",), ("surely", 6, 7), ("surely", 4, 5), ("surely", 8, 9)]
        found = self.check_again_and_again(GREAT_FITS, looks)
        # Number 2 differs from 0, so that 9 differs from 8; 6 and 7 are not 0 where 10 and 11 are to differ.
        arrays = [0, 1, 0, 1, 0, 0, 0, 1, 0, 1, 1, 0, 1, 0, 0, 0, 0, 0, 0, 0, 0, 0, 1, 0]
        self.assertEqual(found[0], [1, 2, 0, 0, 1, 0, 0, 0] + arrays)
        self.assertEqual(found[2:], [[0], [1], [0]])
        for look in looks:
            self.check_again_and_again(GREAT_FITS, [look])

    def test_claims_at_fault_of_all_that_can_be_there(self):
        found = self.check_again_and_again(GREAT_FAILS, [("decide",), ("kinds",), ("surely", 0, 1)])
        self.assertEqual(found, [[0, 3, 4, 5, 6, 7, 11, 12], [0], [-6]])
        self.check_again_and_again(GREAT_FAILS, [("decide",)])


class Nothing(unittest.TestCase):
    def test_the_list_handed_in_is_not_changed(self):
        for calls in (ALL_CALLS, LONGEST):
            handed = flat(calls)
            answers(handed)
            self.assertEqual(handed, flat(calls))

    def test_the_list_handed_in_is_not_changed_for_a_while_either(self):
        class Watched(list):
            def refuse(self, *args, **kwargs):
                raise AssertionError("the list is changed")

            append = extend = insert = pop = remove = reverse = sort = clear = refuse
            __setitem__ = __delitem__ = __iadd__ = __imul__ = refuse

        for calls in (ALL_CALLS, LONGEST):
            self.assertEqual(answers(Watched(flat(calls))), answers(flat(calls)))

    def test_nothing_is_kept_from_one_time_to_the_next(self):
        first = answers(flat(ALL_CALLS))
        answers(flat(LONGEST))
        answers(flat([("mark",), ("number",), ("array",), ("differ", 0, 0), ("mark",)]))
        self.assertEqual(answers(flat(ALL_CALLS)), first)
        self.assertEqual(answers([7, 0, 0, 0, 7, 0, 0]), [1, -2, 1, 0, 1, 1])
        self.assertEqual(answers([11, 15, 12, 14, 10]), [1, -7, 2, 0, 0, 2, 1, 0, 1, 1, 1, 1])

    def test_what_is_given_back_is_new_each_time(self):
        first = answers([0, 1])
        first.append(9)
        self.assertEqual(answers([0, 1]), [1, 0, 1, 1])


if __name__ == "__main__":
    unittest.main()
