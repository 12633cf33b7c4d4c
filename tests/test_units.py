"""unit, gone."""

import unittest

from tests.helper import ARMY, COAST, FLEET, LAND, SEA, behind, kept, laid, last, provinces, rows

KINDS = provinces(LAND, SEA, COAST)


class Unit(unittest.TestCase):
    def test_where_an_army_may_be(self):
        self.assertEqual(last(*KINDS, ("unit", 0, ARMY, 0, 0)), [0])
        self.assertEqual(last(*KINDS, ("unit", 6, ARMY, 2, 0)), [0])
        self.assertEqual(last(*KINDS, ("unit", 0, ARMY, 1, 0)), [-3])

    def test_an_army_is_at_shore_0(self):
        for p in range(3):
            for s in (1, 2, 3):
                with self.subTest(p=p, s=s):
                    self.assertEqual(last(*KINDS, ("unit", 0, ARMY, p, s)), [-3])

    def test_where_a_fleet_may_be(self):
        for s in range(4):
            with self.subTest(s=s):
                self.assertEqual(last(*KINDS, ("unit", 0, FLEET, 1, s)), [0])
                self.assertEqual(last(*KINDS, ("unit", 6, FLEET, 2, s)), [0])
                self.assertEqual(last(*KINDS, ("unit", 0, FLEET, 0, s)), [-3])

    def test_at_most_one_in_a_province(self):
        begin = [*KINDS, ("unit", 0, FLEET, 2, 1)]
        for call in (("unit", 0, FLEET, 2, 1), ("unit", 3, FLEET, 2, 0), ("unit", 1, ARMY, 2, 0)):
            with self.subTest(call=call):
                self.assertEqual(last(*begin, call), [-4])

    def test_what_does_not_fit_comes_before_what_is_taken(self):
        self.assertEqual(last(*KINDS, ("unit", 0, FLEET, 2, 1), ("unit", 0, ARMY, 2, 1)), [-3])
        self.assertEqual(last(*KINDS, ("unit", 0, FLEET, 1, 0), ("unit", 0, ARMY, 1, 0)), [-3])
        self.assertEqual(last(*KINDS, ("unit", 0, ARMY, 0, 0), ("unit", 0, FLEET, 0, 0)), [-3])

    def test_a_refused_unit_is_not_there(self):
        self.assertEqual(rows(*KINDS, ("unit", 0, ARMY, 1, 0), ("gone", 1))[-2:], [[-3], [-5]])
        self.assertEqual(rows(*KINDS, ("unit", 0, ARMY, 1, 0), ("unit", 0, FLEET, 1, 0))[-2:], [[-3], [0]])

    def test_twenty_four(self):
        begin = provinces(*[COAST] * 26)
        units = [("unit", p % 7, p % 2, p, 0) for p in range(26)]
        self.assertEqual(rows(*begin, *units)[26:], [[0]] * 24 + [[-2]] * 2)

    def test_the_order_of_refusals_at_twenty_four(self):
        begin = [*provinces(*[COAST] * 26, SEA), *[("unit", 0, ARMY, p, 0) for p in range(24)]]
        self.assertEqual(last(*begin, ("unit", 0, ARMY, 24, 1)), [-3])
        self.assertEqual(last(*begin, ("unit", 0, ARMY, 26, 0)), [-3])
        self.assertEqual(last(*begin, ("unit", 0, ARMY, 23, 0)), [-4])
        self.assertEqual(last(*begin, ("unit", 7, ARMY, 24, 0)), [-1])

    def test_what_is_kept_of_it(self):
        board = laid(*KINDS, ("unit", 5, FLEET, 2, 3), ("unit", 4, ARMY, 0, 0))
        self.assertEqual(kept(board)[3], [(2, 5, FLEET, 3, (6,)), (0, 4, ARMY, 0, (6,))])

    def test_all_is_as_it_was_behind_a_refusal(self):
        begin = [*provinces(*[COAST] * 25, SEA), *[("unit", p % 7, FLEET, p, p % 4) for p in range(24)]]
        begin.append(("move", 0, 1, 0, 0))
        for call, row in (
            (("unit", 0, ARMY, 25, 0), [-3]), (("unit", 6, ARMY, 0, 0), [-4]), (("unit", 0, ARMY, 24, 0), [-2]),
        ):
            with self.subTest(call=call):
                self.assertEqual(behind(laid(*begin), *call), (row, kept(laid(*begin))))


class Gone(unittest.TestCase):
    def test_no_unit(self):
        for p in range(3):
            self.assertEqual(last(*KINDS, ("gone", p)), [-5])

    def test_it_is_not_there_any_more(self):
        begin = [*KINDS, ("unit", 0, ARMY, 2, 0)]
        self.assertEqual(rows(*begin, ("gone", 2), ("gone", 2), ("hold", 2))[-3:], [[0], [-5], [-5]])

    def test_its_province_is_free_again(self):
        begin = [*KINDS, ("unit", 0, ARMY, 2, 0), ("gone", 2)]
        self.assertEqual(rows(*begin, ("unit", 3, FLEET, 2, 2), ("unit", 0, ARMY, 2, 0))[-2:], [[0], [-4]])

    def test_the_others_stay(self):
        begin = [*KINDS, ("unit", 0, ARMY, 0, 0), ("unit", 0, FLEET, 1, 0), ("unit", 0, ARMY, 2, 0)]
        self.assertEqual(rows(*begin, ("gone", 1), ("hold", 0), ("hold", 1), ("hold", 2))[-4:], [[0], [0], [-5], [0]])

    def test_it_lowers_the_count(self):
        begin = [*provinces(*[LAND] * 26), *[("unit", 0, ARMY, p, 0) for p in range(24)]]
        calls = [("unit", 0, ARMY, 24, 0), ("gone", 7), ("unit", 0, ARMY, 24, 0), ("unit", 0, ARMY, 7, 0)]
        self.assertEqual(rows(*begin, *calls)[-4:], [[-2], [0], [0], [-2]])

    def test_a_refused_one_lowers_nothing(self):
        begin = [*provinces(*[LAND] * 26), *[("unit", 0, ARMY, p, 0) for p in range(24)]]
        self.assertEqual(rows(*begin, ("gone", 25), ("unit", 0, ARMY, 25, 0))[-2:], [[-5], [-2]])

    def test_links_stay(self):
        begin = [*provinces(LAND, LAND), ("land", 0, 1), ("unit", 0, ARMY, 0, 0), ("gone", 0)]
        self.assertEqual(last(*begin, ("land", 1, 0)), [-4])

    def test_a_new_unit_holds_and_is_set_last(self):
        board = laid(
            *KINDS, ("unit", 1, ARMY, 0, 0), ("unit", 2, FLEET, 1, 0), ("move", 0, 2, 0, 0), ("gone", 0),
            ("unit", 3, ARMY, 0, 0))
        self.assertEqual(kept(board)[3], [(1, 2, FLEET, 0, (6,)), (0, 3, ARMY, 0, (6,))])

    def test_all_is_as_it_was_behind_a_refusal(self):
        begin = [*KINDS, ("unit", 0, ARMY, 2, 0), ("stay", 2, 0)]
        self.assertEqual(behind(laid(*begin), "gone", 1), ([-5], kept(laid(*begin))))


if __name__ == "__main__":
    unittest.main()
