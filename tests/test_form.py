"""The form of what is handed in and given back."""

import unittest

from givenorders.table import answers
from tests.helper import COAST, FAR, LAND, SEA, listed, provinces, rows

MANY = [
    *provinces(COAST, SEA, LAND, COAST),
    ("land", 0, 2),
    ("sea", 0, 1, 1, 0),
    ("unit", 2, 1, 0, 1),
    ("unit", 2, 0, 2, 0),
    ("move", 0, 1, 0, 0),
    ("aid", 2, 3, 0),
    ("gone", 1),
    ("land", 0, 9),
    ("gone", 2),
    ("clear",),
    ("province", SEA),
]


class Form(unittest.TestCase):
    def test_one_call(self):
        self.assertEqual(answers([0, 0, 0]), [1, 0])
        self.assertEqual(answers([1, 1, 2, 0]), [2, 0, 0])

    def test_one_refused_call(self):
        self.assertEqual(answers([1, 1, 3, 0]), [1, -1])
        self.assertEqual(answers([5, 1, 0, 0]), [1, -1])

    def test_each_call_by_its_numbers(self):
        calls = [
            1, 1, 2, 0,
            1, 1, 1, 0,
            1, 1, 2, 0,
            2, 2, 0, 2, 0,
            3, 4, 0, 3, 1, 0, 0,
            4, 4, 6, 1, 1, 0, 0,
            6, 1, 1, 0,
            7, 4, 1, 0, 3, 1, 0,
            8, 2, 1, 0, 0,
            9, 3, 1, 2, 0, 0,
            10, 3, 1, 0, 2, 0,
            5, 1, 1, 0,
            0, 0, 0,
        ]
        self.assertEqual(answers(calls), [2, 0, 0, 2, 0, 1, 2, 0, 2] + [1, 0] * 10)

    def test_done_and_refused_calls_in_one_list(self):
        expected = [2, 0, 0, 2, 0, 1, 2, 0, 2, 2, 0, 3] + [1, 0] * 6 + [1, -5, 1, -1, 1, 0, 1, 0, 2, 0, 0]
        self.assertEqual(answers(listed(MANY)), expected)

    def test_four_hundred_calls(self):
        given = answers(listed([("clear",), ("province", LAND)] * 200))
        self.assertEqual(given, [1, 0, 2, 0, 0] * 200)

    def test_longest_numbers(self):
        self.assertEqual(rows(("move", FAR, -FAR, FAR, -FAR), ("province", 0)), [[-1], [0, 0]])

    def test_kinds_of_what_is_given_back(self):
        given = answers(listed(MANY))
        self.assertIs(type(given), list)
        self.assertEqual({type(number) for number in given}, {int})


class Nothing_kept(unittest.TestCase):
    def test_what_is_handed_in_stays(self):
        calls = listed(MANY)
        before = list(calls)
        answers(calls)
        self.assertEqual(calls, before)

    def test_nothing_is_changed_for_a_while(self):
        class Held(list):
            def refuse(self, *numbers):
                raise AssertionError("changed")

            append = extend = insert = pop = remove = clear = sort = reverse = refuse
            __setitem__ = __delitem__ = __iadd__ = __imul__ = refuse

        self.assertEqual(answers(Held(listed(MANY))), answers(listed(MANY)))

    def test_twice_the_same(self):
        calls = listed(MANY)
        first = answers(calls)
        copy = list(first)
        second = answers(calls)
        self.assertEqual(second, copy)
        self.assertEqual(first, copy)

    def test_what_is_given_back_is_the_callers_own(self):
        calls = listed(MANY)
        first = answers(calls)
        copy = list(first)
        first.clear()
        self.assertEqual(answers(calls), copy)

    def test_a_new_table_each_time(self):
        self.assertEqual(rows(("province", COAST), ("unit", 0, 0, 0, 0)), [[0, 0], [0]])
        self.assertEqual(rows(("gone", 0)), [[-1]])
        self.assertEqual(rows(("province", COAST), ("gone", 0)), [[0, 0], [-5]])


if __name__ == "__main__":
    unittest.main()
