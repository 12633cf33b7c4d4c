"""The refusal -1, which is looked at first."""

import unittest

from tests.helper import ARMY, COAST, FAR, FLEET, LAND, SEA, behind, kept, laid, last, provinces

# A table of five provinces, with a unit in 0 that orders may go to.
TABLE = [
    *provinces(COAST, COAST, SEA, LAND, COAST),
    ("unit", 0, FLEET, 0, 1),
]
COUNT = 5

# Each call with numbers that are done on that table, and how far each of them may go.
CALLS = (
    (("province", 0), (2,)),
    (("land", 1, 3), (COUNT - 1, COUNT - 1)),
    (("sea", 1, 0, 2, 0), (COUNT - 1, 3, COUNT - 1, 3)),
    (("unit", 0, ARMY, 1, 0), (6, 1, COUNT - 1, 3)),
    (("gone", 0), (COUNT - 1,)),
    (("hold", 0), (COUNT - 1,)),
    (("move", 0, 1, 0, 0), (COUNT - 1, COUNT - 1, 3, 1)),
    (("stay", 0, 1), (COUNT - 1, COUNT - 1)),
    (("aid", 0, 1, 2), (COUNT - 1, COUNT - 1, COUNT - 1)),
    (("carry", 0, 1, 2), (COUNT - 1, COUNT - 1, COUNT - 1)),
)


def with_number(call, at, number):
    return (*call[:1 + at], number, *call[2 + at:])


class Ranges(unittest.TestCase):
    def test_the_calls_are_done_as_they_stand(self):
        for call, most in CALLS:
            with self.subTest(call=call):
                self.assertEqual(last(*TABLE, call)[0], 0)

    def test_each_number_outside(self):
        for call, most in CALLS:
            for at, greatest in enumerate(most):
                for number in (-FAR, -2, -1, greatest + 1, greatest + 2, FAR):
                    wrong = with_number(call, at, number)
                    with self.subTest(call=wrong):
                        self.assertEqual(last(*TABLE, wrong), [-1])

    def test_each_number_at_its_edges(self):
        for call, most in CALLS:
            for at, greatest in enumerate(most):
                for number in (0, greatest):
                    right = with_number(call, at, number)
                    with self.subTest(call=right):
                        self.assertNotEqual(last(*TABLE, right), [-1])

    def test_all_is_as_it_was(self):
        for call, most in CALLS:
            for at, greatest in enumerate(most):
                for number in (-FAR, -1, greatest + 1, FAR):
                    board = laid(*TABLE)
                    before = kept(board)
                    with self.subTest(call=call, at=at, number=number):
                        self.assertEqual(behind(board, *with_number(call, at, number)), ([-1], before))

    def test_no_province_at_all(self):
        for call, most in CALLS[1:]:
            zeros = (call[0], *[0] * len(most))
            with self.subTest(call=zeros):
                self.assertEqual(last(zeros), [-1])

    def test_the_range_grows_with_the_provinces(self):
        self.assertEqual(last(*provinces(LAND), ("land", 0, 1)), [-1])
        self.assertEqual(last(*provinces(LAND, LAND), ("land", 0, 1)), [0])
        self.assertEqual(last(*provinces(*[LAND] * 40), ("land", 39, 38)), [0])
        self.assertEqual(last(*provinces(*[LAND] * 40), ("land", 39, 40)), [-1])


class Looked_at_first(unittest.TestCase):
    def test_before_there_are_forty_provinces(self):
        full = provinces(*[LAND] * 40)
        self.assertEqual(last(*full, ("province", 3)), [-1])
        self.assertEqual(last(*full, ("province", -1)), [-1])

    def test_before_what_a_link_does_not_fit(self):
        self.assertEqual(last(*TABLE, ("sea", 1, 4, 1, 0)), [-1])
        self.assertEqual(last(*TABLE, ("sea", 3, 0, 2, -1)), [-1])
        self.assertEqual(last(*TABLE, ("land", 2, 5)), [-1])
        self.assertEqual(last(*TABLE, ("land", 5, 5)), [-1])

    def test_before_what_a_unit_does_not_fit(self):
        self.assertEqual(last(*TABLE, ("unit", 7, ARMY, 2, 0)), [-1])
        self.assertEqual(last(*TABLE, ("unit", 0, ARMY, 1, 4)), [-1])
        self.assertEqual(last(*TABLE, ("unit", 0, FLEET, 3, -1)), [-1])

    def test_before_the_unit_that_is_there(self):
        self.assertEqual(last(*TABLE, ("unit", -1, FLEET, 0, 0)), [-1])

    def test_before_the_unit_that_is_not_there(self):
        for call in (
            ("move", 1, 5, 0, 0), ("move", 1, 0, 4, 0), ("move", 1, 0, 0, 2),
            ("stay", 1, -1), ("aid", 1, 5, 0), ("aid", 1, 0, 5), ("carry", 1, -1, 0), ("carry", 1, 0, 5),
        ):
            with self.subTest(call=call):
                self.assertEqual(last(*TABLE, call), [-1])


if __name__ == "__main__":
    unittest.main()
