"""clear, province, land, sea."""

import unittest
from itertools import combinations

from tests.helper import ARMY, COAST, FLEET, LAND, SEA, behind, kept, laid, last, provinces, rows

PAIRS = list(combinations(range(26), 2))
LAND_LINKS = [("land", p, q) for p, q in PAIRS[:300]]
PLACES = [(p, s) for p in range(8) for s in range(4)]
SEA_PAIRS = [(one, other) for one, other in combinations(PLACES, 2) if one[0] != other[0]]
SEA_LINKS = [("sea", *one, *other) for one, other in SEA_PAIRS[:300]]


class Clear(unittest.TestCase):
    def test_answers_on_an_empty_table(self):
        self.assertEqual(rows(("clear",), ("clear",)), [[0], [0]])

    def test_no_provinces_are_left(self):
        self.assertEqual(
            rows(*provinces(LAND, SEA), ("clear",), ("gone", 0), ("province", COAST))[2:], [[0], [-1], [0, 0]])

    def test_no_kinds_are_left(self):
        self.assertEqual(last(*provinces(SEA), ("clear",), *provinces(LAND), ("unit", 0, ARMY, 0, 0)), [0])

    def test_no_links_are_left(self):
        begin = provinces(COAST, COAST)
        links = [("land", 0, 1), ("sea", 0, 2, 1, 3)]
        self.assertEqual(rows(*begin, *links, ("clear",), *begin, *links)[-2:], [[0], [0]])

    def test_no_units_are_left(self):
        begin = [*provinces(COAST), ("unit", 0, ARMY, 0, 0)]
        self.assertEqual(rows(*begin, ("clear",), *provinces(COAST), ("gone", 0), begin[-1])[-2:], [[-5], [0]])

    def test_no_counts_are_left(self):
        full = provinces(*[COAST] * 40)
        self.assertEqual(rows(*full, ("clear",), *full)[-1], [0, 39])
        begin = provinces(*[LAND] * 26)
        self.assertEqual(last(*begin, *LAND_LINKS, ("clear",), *begin, ("land", 0, 1)), [0])
        begin = provinces(*[SEA] * 8)
        self.assertEqual(last(*begin, *SEA_LINKS, ("clear",), *begin, ("sea", 0, 0, 1, 0)), [0])
        begin = [*provinces(*[LAND] * 24), *[("unit", 0, ARMY, p, 0) for p in range(24)]]
        self.assertEqual(rows(*begin, ("clear",), *begin)[-24:], [[0]] * 24)

    def test_all_is_empty(self):
        board = laid(*provinces(COAST, COAST), ("land", 0, 1), ("sea", 0, 0, 1, 0), ("unit", 1, FLEET, 0, 0))
        self.assertEqual(behind(board, "clear"), ([0], ([], [], [], [])))


class Province(unittest.TestCase):
    def test_numbers_rise_from_0(self):
        self.assertEqual(rows(*provinces(LAND, SEA, COAST, LAND)), [[0, 0], [0, 1], [0, 2], [0, 3]])

    def test_a_refused_one_takes_no_number(self):
        self.assertEqual(rows(*provinces(LAND, 3, -1, SEA)), [[0, 0], [-1], [-1], [0, 1]])

    def test_forty(self):
        given = rows(*provinces(*[COAST] * 42))
        self.assertEqual(given, [[0, number] for number in range(40)] + [[-2], [-2]])

    def test_all_is_as_it_was_behind_the_refusal(self):
        board = laid(*provinces(*[COAST] * 40))
        self.assertEqual(behind(board, "province", LAND), ([-2], kept(laid(*provinces(*[COAST] * 40)))))

    def test_its_kind_is_kept(self):
        board = laid(*provinces(COAST, LAND, SEA))
        self.assertEqual(board.kinds, [COAST, LAND, SEA])


class Land(unittest.TestCase):
    def test_joins_what_is_not_sea(self):
        begin = provinces(LAND, LAND, COAST, COAST)
        links = [("land", p, q) for p, q in combinations(range(4), 2)]
        self.assertEqual(rows(*begin, *links)[4:], [[0]] * 6)

    def test_itself(self):
        for kind in (LAND, SEA, COAST):
            self.assertEqual(last(*provinces(kind), ("land", 0, 0)), [-3])

    def test_a_sea(self):
        begin = provinces(LAND, SEA, COAST, SEA)
        for p, q in ((0, 1), (1, 0), (1, 2), (2, 1), (1, 3)):
            with self.subTest(p=p, q=q):
                self.assertEqual(last(*begin, ("land", p, q)), [-3])

    def test_joined_already_both_ways(self):
        begin = [*provinces(LAND, COAST, LAND), ("land", 0, 1)]
        self.assertEqual(last(*begin, ("land", 0, 1)), [-4])
        self.assertEqual(last(*begin, ("land", 1, 0)), [-4])
        self.assertEqual(rows(*begin, ("land", 2, 1), ("land", 2, 0))[-2:], [[0], [0]])

    def test_a_link_of_sea_is_no_link_of_land(self):
        self.assertEqual(last(*provinces(COAST, COAST), ("sea", 0, 0, 1, 0), ("land", 0, 1)), [0])

    def test_a_refused_link_joins_nothing(self):
        begin = provinces(LAND, SEA)
        self.assertEqual(rows(*begin, ("land", 0, 1), ("land", 0, 1))[-2:], [[-3], [-3]])

    def test_three_hundred(self):
        begin = [*provinces(*[LAND] * 26), *LAND_LINKS]
        given = rows(*begin, *[("land", p, q) for p, q in PAIRS[300:]])
        self.assertEqual(given[26:], [[0]] * 300 + [[-2]] * 25)

    def test_the_order_of_refusals_at_three_hundred(self):
        begin = [*provinces(*[LAND] * 26, SEA), *LAND_LINKS]
        self.assertEqual(last(*begin, ("land", 25, 25)), [-3])
        self.assertEqual(last(*begin, ("land", 25, 26)), [-3])
        self.assertEqual(last(*begin, LAND_LINKS[-1]), [-4])
        self.assertEqual(last(*begin, ("land", 1, 0)), [-4])
        self.assertEqual(last(*begin, ("land", 25, 27)), [-1])

    def test_links_of_sea_are_counted_apart(self):
        begin = [*provinces(*[COAST] * 26), *LAND_LINKS]
        self.assertEqual(last(*begin, ("sea", 0, 0, 1, 0)), [0])

    def test_all_is_as_it_was_behind_a_refusal(self):
        begin = [*provinces(*[LAND] * 26, SEA), *LAND_LINKS]
        for call, row in ((("land", 0, 26), [-3]), (("land", 1, 0), [-4]), (("land", 25, 24), [-2])):
            with self.subTest(call=call):
                self.assertEqual(behind(laid(*begin), *call), (row, kept(laid(*begin))))


class Sea(unittest.TestCase):
    def test_joins_what_is_not_land(self):
        begin = provinces(SEA, SEA, COAST, COAST)
        links = [("sea", p, 0, q, 0) for p, q in combinations(range(4), 2)]
        self.assertEqual(rows(*begin, *links)[4:], [[0]] * 6)

    def test_itself(self):
        for kind in (LAND, SEA, COAST):
            self.assertEqual(last(*provinces(kind), ("sea", 0, 0, 0, 0)), [-3])
            self.assertEqual(last(*provinces(kind), ("sea", 0, 0, 0, 3)), [-3])

    def test_land(self):
        begin = provinces(LAND, SEA, COAST, LAND)
        for p, q in ((0, 1), (1, 0), (0, 2), (2, 0), (0, 3)):
            with self.subTest(p=p, q=q):
                self.assertEqual(last(*begin, ("sea", p, 0, q, 0)), [-3])

    def test_joined_already_both_ways(self):
        begin = [*provinces(SEA, COAST), ("sea", 0, 0, 1, 2)]
        self.assertEqual(last(*begin, ("sea", 0, 0, 1, 2)), [-4])
        self.assertEqual(last(*begin, ("sea", 1, 2, 0, 0)), [-4])

    def test_other_shores_are_other_places(self):
        begin = provinces(SEA, COAST)
        links = [("sea", 0, s, 1, t) for s in range(4) for t in range(4)]
        again = [("sea", 1, t, 0, s) for s in range(4) for t in range(4)]
        self.assertEqual(rows(*begin, *links, *again)[2:], [[0]] * 16 + [[-4]] * 16)

    def test_shores_go_with_their_provinces(self):
        begin = [*provinces(COAST, COAST), ("sea", 0, 1, 1, 2)]
        self.assertEqual(rows(*begin, ("sea", 0, 2, 1, 1), ("sea", 1, 1, 0, 2))[-2:], [[0], [-4]])

    def test_a_link_of_land_is_no_link_of_sea(self):
        self.assertEqual(last(*provinces(COAST, COAST), ("land", 0, 1), ("sea", 0, 0, 1, 0)), [0])

    def test_a_refused_link_joins_nothing(self):
        begin = provinces(LAND, SEA)
        self.assertEqual(rows(*begin, ("sea", 0, 0, 1, 0), ("sea", 0, 0, 1, 0))[-2:], [[-3], [-3]])

    def test_three_hundred(self):
        begin = [*provinces(*[COAST] * 8), *SEA_LINKS]
        more = [("sea", *one, *other) for one, other in SEA_PAIRS[300:330]]
        self.assertEqual(rows(*begin, *more)[8:], [[0]] * 300 + [[-2]] * 30)

    def test_the_order_of_refusals_at_three_hundred(self):
        begin = [*provinces(*[COAST] * 8, LAND), *SEA_LINKS]
        self.assertEqual(last(*begin, ("sea", 7, 0, 7, 1)), [-3])
        self.assertEqual(last(*begin, ("sea", 7, 0, 8, 0)), [-3])
        self.assertEqual(last(*begin, SEA_LINKS[-1]), [-4])
        self.assertEqual(last(*begin, ("sea", 1, 0, 0, 0)), [-4])
        self.assertEqual(last(*begin, ("sea", 7, 0, 6, 4)), [-1])

    def test_links_of_land_are_counted_apart(self):
        begin = [*provinces(*[COAST] * 8), *SEA_LINKS]
        self.assertEqual(last(*begin, ("land", 0, 1)), [0])

    def test_all_is_as_it_was_behind_a_refusal(self):
        begin = [*provinces(*[COAST] * 8, LAND), *SEA_LINKS]
        for call, row in ((("sea", 0, 0, 8, 0), [-3]), (("sea", 1, 0, 0, 0), [-4]), (("sea", 7, 3, 6, 3), [-2])):
            with self.subTest(call=call):
                self.assertEqual(behind(laid(*begin), *call), (row, kept(laid(*begin))))


if __name__ == "__main__":
    unittest.main()
