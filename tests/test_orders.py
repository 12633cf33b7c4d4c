"""hold, move, stay, aid, carry."""

import unittest
from itertools import product

from tests.helper import ARMY, COAST, FLEET, LAND, SEA, behind, kept, laid, last, provinces, rows

BEGIN = [
    *provinces(LAND, SEA, COAST, COAST),
    ("land", 0, 2),
    ("sea", 1, 0, 2, 1),
    ("unit", 3, ARMY, 0, 0),
    ("unit", 4, FLEET, 1, 0),
    ("unit", 5, FLEET, 2, 1),
]

# How far the numbers behind an order's own province may go on that table.
BEHIND = {"hold": (), "move": (3, 3, 1), "stay": (3,), "aid": (3, 3), "carry": (3, 3)}
PLACES = {"hold": 6, "move": 7, "stay": 8, "aid": 9, "carry": 10}


def orders(name):
    """Every order of that name that is within the ranges."""
    return product(*[range(most + 1) for most in BEHIND[name]])


class Orders(unittest.TestCase):
    def test_each_is_done_whatever_it_counts_as(self):
        for name in BEHIND:
            for numbers in orders(name):
                given = rows(*BEGIN, *[(name, p, *numbers) for p in range(3)])
                with self.subTest(name=name, numbers=numbers):
                    self.assertEqual(given[-3:], [[0], [0], [0]])

    def test_no_unit(self):
        for name in BEHIND:
            for numbers in orders(name):
                with self.subTest(name=name, numbers=numbers):
                    self.assertEqual(last(*BEGIN, (name, 3, *numbers)), [-5])

    def test_no_unit_any_more(self):
        for name in BEHIND:
            zeros = [0] * len(BEHIND[name])
            with self.subTest(name=name):
                self.assertEqual(rows(*BEGIN, (name, 1, *zeros), ("gone", 1), (name, 1, *zeros))[-3:], [[0], [0], [-5]])

    def test_the_order_is_kept_as_it_was_given(self):
        for name in BEHIND:
            for numbers in orders(name):
                board = laid(*BEGIN, ("carry", 1, 3, 2), (name, 1, *numbers))
                with self.subTest(name=name, numbers=numbers):
                    self.assertEqual(board.units[1].order, (PLACES[name], *numbers))

    def test_the_last_order_is_the_one(self):
        board = laid(*BEGIN, ("move", 0, 2, 0, 0), ("aid", 0, 1, 2), ("stay", 0, 2))
        self.assertEqual(board.units[0].order, (8, 2))
        self.assertEqual(behind(board, "hold", 0)[0], [0])
        self.assertEqual(board.units[0].order, (6,))

    def test_nothing_else_changes(self):
        before = kept(laid(*BEGIN))
        for name in BEHIND:
            numbers = [1] * len(BEHIND[name])
            board = laid(*BEGIN)
            after = behind(board, name, 1, *numbers)[1]
            with self.subTest(name=name):
                self.assertEqual(after[:3], before[:3])
                self.assertEqual(after[3][0], before[3][0])
                self.assertEqual(after[3][1], (*before[3][1][:4], (PLACES[name], *numbers)))
                self.assertEqual(after[3][2], before[3][2])

    def test_all_is_as_it_was_behind_a_refusal(self):
        begin = [*BEGIN, ("move", 0, 2, 0, 0), ("carry", 1, 2, 3), ("aid", 2, 0, 3)]
        for name in BEHIND:
            numbers = [0] * len(BEHIND[name])
            with self.subTest(name=name):
                self.assertEqual(behind(laid(*begin), name, 3, *numbers), ([-5], kept(laid(*begin))))


if __name__ == "__main__":
    unittest.main()
