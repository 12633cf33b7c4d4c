"""Orders as they count."""

import unittest
from itertools import product

from givenorders.orders import as_it_counts
from tests.helper import ARMY, COAST, FLEET, LAND, SEA, found, laid, last, lands, moves, provinces, rows, that_go

HOLD = (6,)

# 0, 1 land; 2 to 5 coasts; 6 to 8 seas. A fleet in 3 is at shore 1, in 6 at shore 0.
TABLE = [
    *provinces(LAND, LAND, COAST, COAST, COAST, COAST, SEA, SEA, SEA),
    ("land", 0, 1), ("land", 1, 2), ("land", 2, 3),
    ("sea", 3, 1, 6, 0), ("sea", 3, 1, 4, 2), ("sea", 3, 0, 7, 0), ("sea", 6, 0, 7, 3), ("sea", 6, 1, 8, 0),
    ("sea", 5, 0, 6, 0),
]
ARMY_IN_1 = ("unit", 0, ARMY, 1, 0)
ARMY_IN_2 = ("unit", 0, ARMY, 2, 0)
FLEET_IN_3 = ("unit", 0, FLEET, 3, 1)
FLEET_IN_6 = ("unit", 0, FLEET, 6, 0)


def counted(unit, name, *numbers):
    """What an order of one unit on that table counts as."""
    p = unit[3]
    return as_it_counts(laid(*TABLE, unit, (name, p, *numbers)), p)


class Moves_of_armies(unittest.TestCase):
    def test_each_goal_without_water(self):
        # By land along a link; else by water from coast to coast; else hold.
        ways = {
            ARMY_IN_1: {0: (7, 0, False), 2: (7, 2, False)},
            ARMY_IN_2: {1: (7, 1, False), 3: (7, 3, False), 4: (7, 4, True), 5: (7, 5, True)},
        }
        for unit, goals in ways.items():
            for q, t in product(range(9), range(4)):
                with self.subTest(unit=unit, q=q, t=t):
                    self.assertEqual(counted(unit, "move", q, t, 0), goals.get(q, HOLD))

    def test_each_goal_with_water(self):
        ways = {ARMY_IN_1: {}, ARMY_IN_2: {3: (7, 3, True), 4: (7, 4, True), 5: (7, 5, True)}}
        for unit, goals in ways.items():
            for q, t in product(range(9), range(4)):
                with self.subTest(unit=unit, q=q, t=t):
                    self.assertEqual(counted(unit, "move", q, t, 1), goals.get(q, HOLD))

    def test_a_link_of_sea_is_none_for_an_army(self):
        coasts = [*provinces(COAST, COAST), ("sea", 0, 0, 1, 0), ("unit", 0, ARMY, 0, 0), ("move", 0, 1, 0, 0)]
        self.assertEqual(as_it_counts(laid(*coasts), 0), (7, 1, True))
        self.assertEqual(found(*coasts), [([], [])])

    def test_along_a_link_either_way(self):
        self.assertEqual(that_go(*lands(2, (0, 1)), ("unit", 0, ARMY, 0, 0), ("move", 0, 1, 3, 0)), [0])
        self.assertEqual(that_go(*lands(2, (0, 1)), ("unit", 0, ARMY, 1, 0), ("move", 1, 0, 0, 0)), [1])

    def test_with_water_a_fleet_is_needed_even_along_a_link(self):
        coasts = [*provinces(COAST, COAST, SEA), ("land", 0, 1), ("sea", 0, 0, 2, 0), ("sea", 2, 0, 1, 0),
                  ("unit", 0, ARMY, 0, 0), ("unit", 1, FLEET, 2, 0)]
        self.assertEqual(found(*coasts, ("move", 0, 1, 0, 0)), [([0], [])])
        self.assertEqual(found(*coasts, ("move", 0, 1, 0, 1)), [([], [])])
        self.assertEqual(found(*coasts, ("move", 0, 1, 0, 1), ("carry", 2, 0, 1)), [([0], [0])])
        # By land it needs no carrier, and has no way when there's one.
        self.assertEqual(found(*coasts, ("move", 0, 1, 0, 0), ("carry", 2, 0, 1)), [([0], [])])


class Moves_of_fleets(unittest.TestCase):
    def test_each_goal_and_shore(self):
        links = {FLEET_IN_3: ((6, 0), (4, 2)), FLEET_IN_6: ((3, 1), (7, 3), (5, 0))}
        for unit, ends in links.items():
            for q, t in product(range(9), range(4)):
                expected = (7, q, False) if (q, t) in ends else HOLD
                with self.subTest(unit=unit, q=q, t=t):
                    self.assertEqual(counted(unit, "move", q, t, 0), expected)

    def test_never_with_water(self):
        for unit in (FLEET_IN_3, FLEET_IN_6):
            for q, t in product(range(9), range(4)):
                with self.subTest(unit=unit, q=q, t=t):
                    self.assertEqual(counted(unit, "move", q, t, 1), HOLD)

    def test_from_another_shore_of_its_own(self):
        self.assertEqual(counted(("unit", 0, FLEET, 3, 0), "move", 7, 0, 0), (7, 7, False))
        self.assertEqual(counted(("unit", 0, FLEET, 3, 0), "move", 6, 0, 0), HOLD)
        self.assertEqual(counted(("unit", 0, FLEET, 3, 3), "move", 6, 0, 0), HOLD)
        self.assertEqual(counted(("unit", 0, FLEET, 6, 1), "move", 8, 0, 0), (7, 8, False))

    def test_not_along_a_link_of_land(self):
        fleet = [*provinces(COAST, COAST), ("land", 0, 1), ("unit", 0, FLEET, 0, 0)]
        for water in (0, 1):
            self.assertEqual(last(*fleet, ("move", 0, 1, 0, water), ("moves",)), [0, 0])


class Supports(unittest.TestCase):
    # What each unit reaches, at whatever shore.
    REACHED = {ARMY_IN_1: (0, 2), ARMY_IN_2: (1, 3), FLEET_IN_3: (4, 6), FLEET_IN_6: (3, 5, 7)}

    def test_stay(self):
        for unit, reached in self.REACHED.items():
            for q in range(9):
                with self.subTest(unit=unit, q=q):
                    self.assertEqual(counted(unit, "stay", q), (8, q) if q in reached else HOLD)

    def test_aid(self):
        for unit, reached in self.REACHED.items():
            for a, q in product(range(9), repeat=2):
                counts = q in reached and a not in (q, unit[3])
                with self.subTest(unit=unit, a=a, q=q):
                    self.assertEqual(counted(unit, "aid", a, q), (9, a, q) if counts else HOLD)

    def test_a_fleet_helps_into_a_province_at_any_shore(self):
        for shore in range(4):
            board = [
                *provinces(COAST, COAST, COAST), ("sea", 0, 0, 1, shore), ("land", 1, 2),
                ("unit", 0, FLEET, 0, 0), ("unit", 1, FLEET, 1, 2), ("unit", 0, ARMY, 2, 0), *moves((2, 1)),
            ]
            with self.subTest(shore=shore):
                self.assertEqual(that_go(*board, ("aid", 0, 2, 1)), [2])
                self.assertEqual(that_go(*board), [])

    def test_an_army_does_not_help_along_a_link_of_sea(self):
        board = [
            *provinces(COAST, COAST, COAST), ("sea", 0, 0, 1, 0), ("land", 1, 2),
            ("unit", 0, ARMY, 0, 0), ("unit", 1, ARMY, 1, 0), ("unit", 0, ARMY, 2, 0), *moves((2, 1)),
        ]
        self.assertEqual(that_go(*board, ("aid", 0, 2, 1)), [])
        self.assertEqual(that_go(*board, ("land", 0, 1), ("aid", 0, 2, 1)), [2])


class Carries(unittest.TestCase):
    def test_each_pair_of_a_fleet_in_a_sea(self):
        for a, q in product(range(9), repeat=2):
            with self.subTest(a=a, q=q):
                self.assertEqual(counted(FLEET_IN_6, "carry", a, q), (10, a, q) if a != q else HOLD)

    def test_not_in_a_coast_and_not_of_an_army(self):
        for unit in (ARMY_IN_1, ARMY_IN_2, FLEET_IN_3):
            for a, q in product(range(9), repeat=2):
                with self.subTest(unit=unit, a=a, q=q):
                    self.assertEqual(counted(unit, "carry", a, q), HOLD)

    def test_no_way_by_a_fleet_in_a_coast(self):
        for kind, expected in ((SEA, [([0], [0])]), (COAST, [([], [])])):
            board = [*provinces(COAST, COAST, kind), ("sea", 0, 0, 2, 0), ("sea", 1, 0, 2, 0),
                     ("unit", 0, ARMY, 0, 0), ("unit", 0, FLEET, 2, 0), ("move", 0, 1, 0, 1), ("carry", 2, 0, 1)]
            with self.subTest(kind=kind):
                self.assertEqual(found(*board), expected)


class Holds(unittest.TestCase):
    def test_hold(self):
        for unit in (ARMY_IN_1, ARMY_IN_2, FLEET_IN_3, FLEET_IN_6):
            self.assertEqual(counted(unit, "hold"), HOLD)
            self.assertEqual(as_it_counts(laid(*TABLE, unit), unit[3]), HOLD)

    def test_an_order_that_counts_as_hold_stands(self):
        # Where the move into 1 counts as hold, the unit in 1 is held like one that stands: a stay counts for it.
        board = [*lands(5, (0, 1), (1, 2), (1, 3)), ("unit", 0, ARMY, 0, 0), ("unit", 1, ARMY, 1, 0),
                 ("unit", 0, ARMY, 2, 0), ("unit", 1, ARMY, 3, 0), *moves((0, 1)), ("aid", 2, 0, 1), ("stay", 3, 1)]
        self.assertEqual(that_go(*board, ("move", 1, 4, 0, 0)), [])
        self.assertEqual(that_go(*board, ("move", 1, 3, 0, 0)), [0])


class As_the_board_is_now(unittest.TestCase):
    def test_a_link_of_land_that_comes_later(self):
        begin = [*provinces(LAND, LAND, COAST, COAST), ("unit", 0, ARMY, 0, 0), ("unit", 0, ARMY, 2, 0),
                 *moves((0, 1), (2, 3))]
        given = rows(*begin, ("moves",), ("sure",), ("land", 0, 1), ("moves",), ("land", 2, 3), ("sure",))
        self.assertEqual(given[-6:], [[0, 1, 2], [0, 0, 1, 2], [0], [0, 2, 0, 2], [0], [0, 2, 0, 2, 0]])

    def test_a_link_of_sea_that_comes_later(self):
        begin = [*provinces(SEA, COAST), ("unit", 0, FLEET, 0, 2), ("move", 0, 1, 3, 0)]
        given = rows(*begin, ("moves",), ("sea", 1, 3, 0, 1), ("moves",), ("sea", 1, 3, 0, 2), ("moves",))
        self.assertEqual(given[-5:], [[0, 0], [0], [0, 0], [0], [0, 1, 0]])

    def test_supports_before_their_links(self):
        begin = [*lands(3, (0, 1)), ("unit", 0, ARMY, 0, 0), ("unit", 1, ARMY, 1, 0), ("unit", 0, ARMY, 2, 0),
                 *moves((0, 1)), ("aid", 2, 0, 1)]
        given = rows(*begin, ("check", 0), ("land", 1, 2), ("check", 0), ("stay", 2, 1), ("check", 0))
        self.assertEqual(given[-5:], [[0, 0], [0], [0, 1], [0], [0, 0]])

    def test_a_carry_before_its_links_and_its_army(self):
        begin = [*provinces(COAST, COAST, SEA), ("unit", 0, FLEET, 2, 0), ("carry", 2, 0, 1), ("sea", 2, 0, 1, 0),
                 ("unit", 0, ARMY, 0, 0), ("move", 0, 1, 0, 0)]
        self.assertEqual(found(*begin), [([], [])])
        self.assertEqual(found(*begin, ("sea", 0, 3, 2, 0)), [([0], [0])])

    def test_units_that_come_and_go(self):
        begin = [*lands(3, (0, 1), (1, 2)), *[("unit", 0, ARMY, 0, 0), ("move", 0, 1, 0, 0)]]
        given = rows(
            *begin, ("check", 0), ("unit", 1, ARMY, 1, 0), ("check", 0), ("move", 1, 2, 0, 0), ("check", 0, 1),
            ("unit", 1, ARMY, 2, 0), ("check", 0, 1), ("check",), ("gone", 1), ("check", 0), ("moves",))
        self.assertEqual([row[-1] for row in given[-11:]], [1, 0, 0, 0, 1, 0, 0, 1, 0, 1, 0])

    def test_a_new_unit_has_not_the_order_of_one_that_is_gone(self):
        begin = [*lands(2, (0, 1)), ("unit", 0, ARMY, 0, 0), ("move", 0, 1, 0, 0)]
        given = rows(*begin, ("moves",), ("gone", 0), ("moves",), ("unit", 0, ARMY, 0, 0), ("moves",))
        self.assertEqual(given[-5::2], [[0, 1, 0], [0, 0], [0, 0]])

    def test_the_last_order_is_the_one(self):
        begin = [*lands(2, (0, 1)), ("unit", 0, ARMY, 0, 0)]
        for order in (("hold", 0), ("stay", 0, 1), ("aid", 0, 1, 1), ("carry", 0, 0, 1), ("move", 0, 0, 0, 0)):
            with self.subTest(order=order):
                self.assertEqual(last(*begin, *moves((0, 1)), order, ("moves",)), [0, 0])
                self.assertEqual(last(*begin, order, *moves((0, 1)), ("moves",)), [0, 1, 0])

    def test_nothing_moves_behind_clear(self):
        begin = [*lands(2, (0, 1)), ("unit", 0, ARMY, 0, 0), *moves((0, 1))]
        given = rows(*begin, ("outcome", 0), ("clear",), ("moves",), ("outcome", 0), ("behind", 0), ("check", 0))
        self.assertEqual(given[-6:], [[0, 1, 0, 0], [0], [0, 0], [0, 0, 0], [0, 0], [-1]])


if __name__ == "__main__":
    unittest.main()
