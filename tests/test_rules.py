"""Each rule by itself: what cuts a support, what a move attacks with, what it meets."""

import unittest
from itertools import combinations

from tests.helper import ARMY, COAST, FLEET, SEA, armies, found, lands, moves, provinces, rows, that_go

# Nine provinces of land, each joined with each.
ALL = lands(9, *combinations(range(9), 2))
# Nine coasts joined so, and two seas that are joined with all of them.
COASTS = [
    *provinces(*[COAST] * 9, SEA, SEA),
    *[("land", p, q) for p, q in combinations(range(9), 2)],
    *[("sea", p, 0, q, 0) for p in range(9) for q in (9, 10)],
    ("sea", 9, 0, 10, 0),
]


class Against_what_stands(unittest.TestCase):
    def test_into_an_empty_province(self):
        self.assertEqual(that_go(*ALL, *armies(0), *moves((0, 1))), [0])

    def test_one_against_one(self):
        self.assertEqual(that_go(*ALL, *armies(0, 1), *moves((0, 1))), [])

    def test_helpers_against_stays(self):
        # 0 moves into 1; 2, 3, 4 may help it, 5, 6 may help 1 to stay.
        begin = [*ALL, *armies(0, 1, 0, 2, 3, 1, 4), *moves((0, 1))]
        for aids in range(4):
            for stays in range(3):
                orders = [("aid", p, 0, 1) for p in range(2, 2 + aids)] + [("stay", p, 1) for p in range(5, 5 + stays)]
                with self.subTest(aids=aids, stays=stays):
                    self.assertEqual(that_go(*begin, *orders), [0] if aids > stays else [])

    def test_help_for_another_move_is_none(self):
        begin = [*ALL, *armies(0, 1, 0), *moves((0, 1))]
        self.assertEqual(that_go(*begin, ("aid", 2, 0, 1)), [0])
        self.assertEqual(that_go(*begin, ("aid", 2, 0, 3)), [])
        self.assertEqual(that_go(*begin, ("aid", 2, 3, 1)), [])
        self.assertEqual(that_go(*begin, ("stay", 2, 0)), [])

    def test_a_stay_for_another_province_is_none(self):
        begin = [*ALL, *armies(0, 1, 0, 1), *moves((0, 1)), ("aid", 2, 0, 1)]
        self.assertEqual(that_go(*begin, ("stay", 3, 1)), [])
        self.assertEqual(that_go(*begin, ("stay", 3, 0)), [0])
        self.assertEqual(that_go(*begin, ("aid", 3, 4, 1)), [0])

    def test_a_unit_of_its_own_power(self):
        begin = [*ALL, *armies(0, 0, 1, 2), *moves((0, 1))]
        self.assertEqual(that_go(*begin, ("aid", 2, 0, 1), ("aid", 3, 0, 1)), [])

    def test_helpers_of_the_power_that_is_attacked(self):
        begin = [*ALL, *armies(0, 1, 1, 2, 1), *moves((0, 1))]
        self.assertEqual(that_go(*begin, ("aid", 2, 0, 1)), [])
        self.assertEqual(that_go(*begin, ("aid", 3, 0, 1)), [0])
        self.assertEqual(that_go(*begin, ("aid", 2, 0, 1), ("aid", 4, 0, 1)), [])
        # Two stays: one that counts and one that doesn't aren't more than them.
        more = [("unit", 3, ARMY, 5, 0), ("stay", 5, 1), ("aid", 2, 0, 1), ("aid", 3, 0, 1)]
        self.assertEqual(that_go(*begin, *more), [])

    def test_stays_of_any_power_hold(self):
        begin = [*ALL, *armies(0, 1, 0, 0), *moves((0, 1)), ("aid", 2, 0, 1)]
        self.assertEqual(that_go(*begin, ("stay", 3, 1)), [])


class Cuts_of_stays(unittest.TestCase):
    # 0 moves into 1, helped by 2; 3 helps 1 to stay; what comes from 4 may cut that.
    BEGIN = [*ALL, *armies(0, 1, 0, 1), *moves((0, 1)), ("aid", 2, 0, 1), ("stay", 3, 1)]

    def test_not_cut(self):
        self.assertEqual(that_go(*self.BEGIN), [])

    def test_by_another_power(self):
        for power in (0, 2, 6):
            with self.subTest(power=power):
                self.assertEqual(that_go(*self.BEGIN, ("unit", power, ARMY, 4, 0), *moves((4, 3))), [0])

    def test_not_by_the_same_power(self):
        self.assertEqual(that_go(*self.BEGIN, ("unit", 1, ARMY, 4, 0), *moves((4, 3))), [])

    def test_not_by_a_move_elsewhere(self):
        self.assertEqual(that_go(*self.BEGIN, ("unit", 0, ARMY, 4, 0), *moves((4, 5))), [4])

    def test_by_one_of_several(self):
        more = [("unit", 1, ARMY, 4, 0), ("unit", 2, ARMY, 5, 0), *moves((4, 3), (5, 3))]
        self.assertEqual(that_go(*self.BEGIN, *more), [0])

    def test_by_the_one_whose_goal_is_held(self):
        # The stay is for 1, and it's the unit in 1 that moves into 3: no support for it is left, but it's cut.
        begin = [*ALL, *armies(0, 1, 0, 2), ("aid", 2, 0, 1), ("stay", 3, 1)]
        self.assertEqual(that_go(*begin, *moves((0, 1), (1, 3))), [0])

    def test_a_cut_unit_still_holds_itself(self):
        begin = [*ALL, *armies(0, 1, 2), *moves((0, 1)), ("stay", 1, 2)]
        self.assertEqual(that_go(*begin), [])


class Cuts_of_aids(unittest.TestCase):
    # 0 moves into 1, helped by 2; what comes from 3 may cut that.
    BEGIN = [*ALL, *armies(0, 1, 0), *moves((0, 1)), ("aid", 2, 0, 1)]

    def test_not_cut(self):
        self.assertEqual(that_go(*self.BEGIN), [0])

    def test_by_another_power(self):
        for power in (1, 2, 6):
            with self.subTest(power=power):
                self.assertEqual(that_go(*self.BEGIN, ("unit", power, ARMY, 3, 0), *moves((3, 2))), [])

    def test_not_by_the_same_power(self):
        self.assertEqual(that_go(*self.BEGIN, ("unit", 0, ARMY, 3, 0), *moves((3, 2))), [0])

    def test_the_power_is_the_supporters_not_the_movers(self):
        begin = [*ALL, *armies(0, 1, 2), *moves((0, 1)), ("aid", 2, 0, 1)]
        self.assertEqual(that_go(*begin, ("unit", 2, ARMY, 3, 0), *moves((3, 2))), [0])
        self.assertEqual(that_go(*begin, ("unit", 0, ARMY, 3, 0), *moves((3, 2))), [])

    def test_not_from_the_province_that_it_is_aimed_at(self):
        self.assertEqual(that_go(*self.BEGIN, *moves((1, 2))), [0])

    def test_from_there_by_a_move_that_goes(self):
        # 1 moves into 2 with help and goes; 4 moves into 1 too, so that the cut aid is missed there.
        begin = [*self.BEGIN, *moves((1, 2)), ("unit", 2, ARMY, 4, 0), *moves((4, 1))]
        self.assertEqual(that_go(*begin), [0])
        more = [("unit", 1, ARMY, 5, 0), ("aid", 5, 1, 2)]
        self.assertEqual(that_go(*begin, *more), [1])

    def test_one_is_cut_and_another_is_not(self):
        begin = [*self.BEGIN, ("unit", 0, ARMY, 4, 0), ("aid", 4, 0, 1), ("unit", 2, ARMY, 3, 0)]
        self.assertEqual(that_go(*begin, *moves((3, 2))), [0])
        self.assertEqual(that_go(*begin, *moves((3, 4))), [0])
        more = [("unit", 2, ARMY, 5, 0), *moves((5, 4))]
        self.assertEqual(that_go(*begin, *moves((3, 2)), *more), [])

    def test_by_a_move_that_can_not_go(self):
        # It bounces there, and of its own accord it would not even be let in; it cuts all the same.
        more = [("unit", 2, ARMY, 3, 0), ("unit", 3, ARMY, 4, 0), *moves((3, 2), (4, 2))]
        self.assertEqual(that_go(*self.BEGIN, *more), [])


class Cuts_by_water(unittest.TestCase):
    # 0 moves into 1, helped by 2; an army in 3 moves into 2 by water.
    BEGIN = [*COASTS, *armies(0, 1, 0, 2), *moves((0, 1)), ("aid", 2, 0, 1), ("move", 3, 2, 0, 1),
             ("unit", 2, FLEET, 9, 0)]

    def test_not_by_one_without_a_way(self):
        self.assertEqual(found(*self.BEGIN), [([0], [])])

    def test_by_one_with_a_way(self):
        self.assertEqual(found(*self.BEGIN, ("carry", 9, 3, 2)), [([], [3])])

    def test_a_stay_too(self):
        # 0 moves into 1 helped by 4, and 2 helps 1 to stay.
        begin = [*self.BEGIN, ("stay", 2, 1), ("unit", 0, ARMY, 4, 0), ("aid", 4, 0, 1)]
        self.assertEqual(found(*begin), [([], [])])
        self.assertEqual(found(*begin, ("carry", 9, 3, 2)), [([0], [3])])

    def test_from_the_province_that_it_is_aimed_at(self):
        begin = [*COASTS, *armies(0, 1, 0), *moves((0, 1)), ("aid", 2, 0, 1), ("move", 1, 2, 0, 1),
                 ("unit", 2, FLEET, 9, 0), ("carry", 9, 1, 2)]
        self.assertEqual(found(*begin), [([0], [1])])


class What_has_left(unittest.TestCase):
    def test_one_follows_another(self):
        begin = [*ALL, *armies(0, 1, 2), *moves((0, 1), (1, 2), (2, 3))]
        self.assertEqual(that_go(*begin), [0, 1, 2])

    def test_none_follows_what_does_not_go(self):
        begin = [*ALL, *armies(0, 1, 2, 3), *moves((0, 1), (1, 2), (2, 3))]
        self.assertEqual(that_go(*begin), [])

    def test_of_the_same_power(self):
        self.assertEqual(that_go(*ALL, *armies(0, 0), *moves((0, 1), (1, 2))), [0, 1])
        begin = [*ALL, *armies(0, 0, 1, 0), *moves((0, 1), (1, 2)), ("aid", 3, 0, 1)]
        self.assertEqual(that_go(*begin), [])

    def test_a_unit_that_moves_in_vain_holds_with_one(self):
        begin = [*ALL, *armies(0, 1, 2, 3), *moves((0, 1), (1, 2))]
        self.assertEqual(that_go(*begin, ("aid", 3, 0, 1)), [0])
        more = [("unit", 1, ARMY, 4, 0), ("stay", 4, 1), ("unit", 1, ARMY, 5, 0), ("stay", 5, 1)]
        self.assertEqual(that_go(*begin, ("aid", 3, 0, 1), *more), [0])
        self.assertEqual(that_go(*begin), [])

    def test_helpers_of_its_power_count_when_it_has_left(self):
        # 0 and 3 move into 1; 2 is of the power in 1 and helps 0.
        begin = [*ALL, *armies(0, 1, 1, 2), *moves((0, 1), (3, 1)), ("aid", 2, 0, 1)]
        self.assertEqual(that_go(*begin, *moves((1, 4))), [0, 1])
        self.assertEqual(that_go(*begin), [])

    def test_and_they_do_not_when_it_has_not(self):
        begin = [*ALL, *armies(0, 1, 1, None, 2), ("aid", 2, 0, 1)]
        self.assertEqual(that_go(*begin, *moves((0, 1), (1, 4))), [])


class Head_to_head(unittest.TestCase):
    BEGIN = [*ALL, *armies(0, 1), *moves((0, 1), (1, 0))]

    def test_without_helpers(self):
        self.assertEqual(found(*self.BEGIN), [([], [])])

    def test_with_helpers(self):
        for ours in range(3):
            for theirs in range(3):
                units = [("unit", 0, ARMY, p, 0) for p in (2, 3)] + [("unit", 1, ARMY, p, 0) for p in (4, 5)]
                aids = [("aid", 2 + k, 0, 1) for k in range(ours)] + [("aid", 4 + k, 1, 0) for k in range(theirs)]
                expected = [0] if ours > theirs else [1] if theirs > ours else []
                with self.subTest(ours=ours, theirs=theirs):
                    self.assertEqual(that_go(*self.BEGIN, *units, *aids), expected)

    def test_of_one_power(self):
        begin = [*ALL, *armies(0, 0, 1), *moves((0, 1), (1, 0))]
        self.assertEqual(found(*begin), [([], [])])
        self.assertEqual(found(*begin, ("aid", 2, 0, 1)), [([], [])])

    def test_helpers_of_the_others_power(self):
        # 2 helps 0 against a unit of its own power: that doesn't push.
        self.assertEqual(that_go(*self.BEGIN, ("unit", 1, ARMY, 2, 0), ("aid", 2, 0, 1)), [])
        # But it keeps the other from coming: the wall counts all helpers.
        more = [("unit", 1, ARMY, 2, 0), ("aid", 2, 0, 1), ("unit", 2, ARMY, 3, 0), ("aid", 3, 1, 0)]
        self.assertEqual(that_go(*self.BEGIN, *more), [])
        self.assertEqual(that_go(*self.BEGIN, *more, ("hold", 2)), [1])

    def test_stays_mean_nothing(self):
        more = [("unit", 0, ARMY, 2, 0), ("aid", 2, 0, 1), ("unit", 1, ARMY, 3, 0), ("stay", 3, 1)]
        self.assertEqual(that_go(*self.BEGIN, *more), [0])

    def test_the_one_that_loses_keeps_nobody_out(self):
        # 0 goes into 1 with help; 3 goes into 0, though the unit of 1 wanted there.
        more = [("unit", 0, ARMY, 2, 0), ("aid", 2, 0, 1), ("unit", 2, ARMY, 3, 0), *moves((3, 0))]
        self.assertEqual(that_go(*self.BEGIN, *more), [0, 3])

    def test_the_one_that_loses_keeps_nobody_out_with_helpers_either(self):
        helpers = [("unit", 0, ARMY, p, 0) for p in (2, 4)] + [("unit", 1, ARMY, 5, 0)]
        aids = [("aid", 2, 0, 1), ("aid", 4, 0, 1), ("aid", 5, 1, 0)]
        more = [*helpers, *aids, ("unit", 2, ARMY, 3, 0), *moves((3, 0))]
        self.assertEqual(that_go(*self.BEGIN, *more), [0, 3])

    def test_one_that_does_not_win_keeps_others_out(self):
        # Neither goes; 3, helped by 4, is more than what holds 0, but not more than the move from 1 with its help.
        more = [("unit", 2, ARMY, 3, 0), ("unit", 2, ARMY, 4, 0), ("unit", 1, ARMY, 5, 0), ("unit", 0, ARMY, 6, 0),
                *moves((3, 0)), ("aid", 4, 3, 0), ("aid", 6, 0, 1)]
        self.assertEqual(that_go(*self.BEGIN, *more), [0, 3])
        self.assertEqual(that_go(*self.BEGIN, *more, ("aid", 5, 1, 0)), [])

    def test_kept_shut_by_one_that_is_driven_out_from_elsewhere(self):
        # 2 drives out 1, which is head to head with 0, whose move doesn't go: 0 is kept shut by 1 all the same.
        more = [("unit", 2, ARMY, 2, 0), ("unit", 2, ARMY, 3, 0), ("unit", 3, ARMY, 4, 0),
                *moves((2, 1), (4, 0)), ("aid", 3, 2, 1)]
        self.assertEqual(that_go(*self.BEGIN, *more), [2])

    def test_a_ring_of_three_is_not_head_to_head(self):
        begin = [*ALL, *armies(0, 1, 2), *moves((0, 1), (1, 2), (2, 0))]
        self.assertEqual(found(*begin), [([], []), ([0, 1, 2], [])])


class Never_head_to_head_by_water(unittest.TestCase):
    FLEETS = [("unit", 2, FLEET, 9, 0), ("unit", 2, FLEET, 10, 0)]
    BEGIN = [*COASTS, *armies(0, 1), *FLEETS]

    def test_one_by_water(self):
        begin = [*self.BEGIN, ("move", 0, 1, 0, 1), ("move", 1, 0, 0, 0), ("carry", 9, 0, 1)]
        self.assertEqual(found(*begin), [([], [0]), ([0, 1], [0])])

    def test_the_other_by_water(self):
        begin = [*self.BEGIN, ("move", 0, 1, 0, 0), ("move", 1, 0, 0, 1), ("carry", 9, 1, 0)]
        self.assertEqual(found(*begin), [([], [1]), ([0, 1], [1])])

    def test_both_by_water(self):
        begin = [*self.BEGIN, ("move", 0, 1, 0, 1), ("move", 1, 0, 0, 1), ("carry", 9, 0, 1), ("carry", 10, 1, 0)]
        self.assertEqual(found(*begin), [([], [0, 1]), ([0, 1], [0, 1])])

    def test_without_a_way_it_is_not_head_to_head_either(self):
        # The move by water has no way; what holds its province is 1, its helper doesn't count.
        begin = [*self.BEGIN, ("move", 0, 1, 0, 1), ("move", 1, 0, 0, 0)]
        more = [("unit", 0, ARMY, 2, 0), ("aid", 2, 0, 1), ("unit", 1, ARMY, 3, 0), ("aid", 3, 1, 0)]
        self.assertEqual(found(*begin, *more), [([1], [])])

    def test_one_is_helped(self):
        begin = [*self.BEGIN, ("move", 0, 1, 0, 1), ("move", 1, 0, 0, 0), ("carry", 9, 0, 1)]
        # It goes for sure, so the other may follow.
        self.assertEqual(found(*begin, ("unit", 0, ARMY, 2, 0), ("aid", 2, 0, 1)), [([0, 1], [0])])

    def test_it_keeps_others_out_though_the_other_goes(self):
        # 0 and 1 change places; 2 moves into 1 as well, and is kept out by the help that 0 has.
        begin = [*self.BEGIN, ("move", 0, 1, 0, 1), ("move", 1, 0, 0, 0), ("carry", 9, 0, 1),
                 ("unit", 2, ARMY, 2, 0), *moves((2, 1))]
        self.assertEqual(found(*begin), [([], [0])])
        self.assertEqual(found(*begin, ("unit", 0, ARMY, 3, 0), ("aid", 3, 0, 1)), [([0, 1], [0])])


class Several_into_one(unittest.TestCase):
    def test_helpers_decide(self):
        # 0, 1, 2 move into 6, which is empty; 3, 4, 5 help.
        begin = [*ALL, *armies(0, 1, 2, 3, 4, 5), *moves((0, 6), (1, 6), (2, 6))]
        cases = (
            ((), []), ((0,), [0]), ((1,), [1]), ((2,), [2]), ((0, 1), []), ((0, 1, 2), []), ((0, 0, 1), [0]),
            ((2, 2, 1), [2]), ((1, 1, 1), [1]),
        )
        for helped, expected in cases:
            aids = [("aid", 3 + k, p, 6) for k, p in enumerate(helped)]
            with self.subTest(helped=helped):
                self.assertEqual(that_go(*begin, *aids), expected)

    def test_of_one_power(self):
        self.assertEqual(that_go(*ALL, *armies(0, 0), *moves((0, 2), (1, 2))), [])
        begin = [*ALL, *armies(0, 0, 0), *moves((0, 3), (1, 3)), ("aid", 2, 0, 3)]
        self.assertEqual(that_go(*begin), [0])

    def test_into_a_unit_that_stands(self):
        # 0 with two helpers is more than what holds 6, but not more than 1 with two.
        begin = [*ALL, *armies(0, 1, 2, 2, 3, 3, 4), *moves((0, 6), (1, 6))]
        ours = [("aid", 2, 0, 6), ("aid", 3, 0, 6)]
        self.assertEqual(that_go(*begin, *ours, ("aid", 4, 1, 6)), [0])
        self.assertEqual(that_go(*begin, *ours, ("aid", 4, 1, 6), ("aid", 5, 1, 6)), [])

    def test_helpers_of_the_held_power_keep_out(self):
        # 0's helper is of the power in 6: 0 doesn't push with it, but keeps 1 out with it.
        begin = [*ALL, *armies(0, 1, 5, 3, None, None, 5), *moves((0, 6), (1, 6)), ("aid", 3, 1, 6)]
        self.assertEqual(that_go(*begin), [1])
        self.assertEqual(that_go(*begin, ("aid", 2, 0, 6)), [])

    def test_a_move_into_its_own_power_keeps_others_out(self):
        # 0 can't drive out 6 of its own power, but keeps 1 out of there.
        begin = [*ALL, *armies(5, 1, 2, 3, None, None, 5), *moves((0, 6), (1, 6)), ("aid", 3, 1, 6)]
        self.assertEqual(that_go(*begin), [1])
        self.assertEqual(that_go(*begin, ("aid", 2, 0, 6)), [])

    def test_without_a_way_nobody_is_kept_out(self):
        begin = [*COASTS, *armies(0, 1), ("move", 0, 6, 0, 1), ("move", 1, 6, 0, 0), ("unit", 2, FLEET, 9, 0)]
        self.assertEqual(found(*begin), [([1], [])])
        self.assertEqual(found(*begin, ("carry", 9, 0, 6)), [([], [0])])
        aids = [("unit", 0, ARMY, 2, 0), ("aid", 2, 0, 6)]
        self.assertEqual(found(*begin, *aids), [([1], [])])

    def test_one_that_is_driven_out_keeps_others_out(self):
        # 2 drives out 1, which moves into 6, where 0 moves as well.
        begin = [*ALL, *armies(0, 1, 2, 3), *moves((0, 6), (1, 6), (2, 1)), ("aid", 3, 2, 1)]
        self.assertEqual(that_go(*begin), [2])


class Agreeing(unittest.TestCase):
    def test_each_telling_but_the_outcome_is_none(self):
        # 0 follows 1, 2 bounces: only 0, 1 is told rightly.
        begin = [*ALL, *armies(0, 1, 2, 3), *moves((0, 1), (1, 4), (2, 3))]
        tellings = [c for size in range(4) for c in combinations((0, 1, 2), size)]
        given = rows(*begin, *[("check", *told) for told in tellings])[len(begin):]
        self.assertEqual([told for told, row in zip(tellings, given) if row == [0, 1]], [(0, 1)])
        self.assertEqual([row for row in given if row != [0, 1]], [[0, 0]] * 7)


if __name__ == "__main__":
    unittest.main()
