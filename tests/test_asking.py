"""The calls 11 to 20: what they answer, what they refuse, and that they change nothing."""

import unittest
from itertools import combinations

from givenorders.asking import ask
from givenorders.field import field_of
from givenorders.table import answers
from tests.helper import (
    ARMY, COAST, FAR, FLEET, NAMES, SEA, armies, found, kept, laid, last, lands, listed, moves, provinces, rows)

# Armies in 0, 1, 2 go round; 3 follows nobody; 4 moves into an empty province; 5 stands.
RING = [
    *lands(7, (0, 1), (1, 2), (2, 0), (3, 5), (4, 6)), *armies(0, 1, 2, 3, 4, 5),
    *moves((0, 1), (1, 2), (2, 0), (3, 5), (4, 6)),
]
# A move into a unit that stands, and nothing else.
ONE = [*lands(3, (0, 1)), *armies(0, 1), *moves((0, 1))]
# The army from 0 has a way if and only if it has none.
NONE = [
    *provinces(COAST, COAST, SEA, SEA, SEA), *[("sea", p, 0, 2, 0) for p in (0, 1, 3, 4)],
    ("unit", 0, ARMY, 0, 0), ("move", 0, 1, 0, 1), ("unit", 1, FLEET, 2, 0), ("carry", 2, 0, 1),
    ("unit", 3, FLEET, 1, 0), ("stay", 1, 2),
    ("unit", 2, FLEET, 3, 0), ("move", 3, 2, 0, 0), ("unit", 2, FLEET, 4, 0), ("aid", 4, 3, 2),
]
NO_NUMBERS = ("outcomes", "sure", "kinds", "ends", "rings")


def asked(begin, *calls):
    """What the calls answer behind others."""
    return rows(*begin, *calls)[len(begin):]


def eight(count=8):
    """So many armies, each of which moves into an empty province of its own."""
    return [*lands(18, *[(p, p + 9) for p in range(9)]), *armies(*[0] * 9), *moves(*[(p, p + 9) for p in range(count)])]


class Answers(unittest.TestCase):
    def test_moves(self):
        self.assertEqual(last(("moves",)), [0, 0])
        self.assertEqual(last(*ONE, ("moves",)), [0, 1, 0])
        self.assertEqual(last(*RING, ("moves",)), [0, 5, 0, 1, 2, 3, 4])

    def test_moves_rise_whatever_the_units_order(self):
        begin = [*lands(4, (0, 1), (1, 2), (2, 3)), *armies(0, 0, 0, 0)[::-1], *moves((3, 2), (0, 1), (2, 1))]
        self.assertEqual(last(*begin, ("moves",)), [0, 3, 0, 2, 3])

    def test_check(self):
        given = asked(RING, ("check", 4), ("check", 0, 1, 2, 4), ("check",), ("check", 4, 3), ("check", 0, 4))
        self.assertEqual(given, [[0, 1], [0, 1], [0, 0], [0, 0], [0, 0]])

    def test_outcomes(self):
        for begin, count in (([], 1), (ONE, 1), (RING, 2), (NONE, 0)):
            self.assertEqual(last(*begin, ("outcomes",)), [0, count])

    def test_outcome(self):
        self.assertEqual(last(("outcome", 0)), [0, 0, 0])
        self.assertEqual(last(*ONE, ("outcome", 0)), [0, 0, 0])
        self.assertEqual(asked(RING, ("outcome", 0), ("outcome", 1)), [[0, 1, 4, 0], [0, 4, 0, 1, 2, 4, 0]])

    def test_sure(self):
        self.assertEqual(last(("sure",)), [0, 0, 0])
        self.assertEqual(last(*ONE, ("sure",)), [0, 0, 1, 0])
        self.assertEqual(last(*RING, ("sure",)), [0, 1, 4, 1, 3])

    def test_kinds(self):
        self.assertEqual(last(("kinds",)), [0, 1, 0])
        self.assertEqual(last(*RING, ("kinds",)), [0, 1, 0])

    def test_ends(self):
        self.assertEqual(last(("ends",)), [0, 0, 0])
        self.assertEqual(last(*ONE, ("ends",)), [0, 0, 0])
        self.assertEqual(last(*RING, ("ends",)), [0, 0, 1])

    def test_join(self):
        calls = [("join", i, j) for i in (0, 1) for j in (0, 1)]
        self.assertEqual(asked(RING, *calls), [[0, 1, 1]] * 4)

    def test_behind(self):
        self.assertEqual(last(("behind", 0)), [0, 0])
        self.assertEqual(last(*ONE, ("behind", 0)), [0, 2, 0, 0, 1, 1])
        self.assertEqual(asked(RING, ("behind", 0), ("behind", 1)), [
            [0, 6, 0, 0, 1, 1, 2, 2, 3, 3, 4, 6, 5, 5], [0, 6, 0, 1, 1, 2, 2, 0, 3, 3, 4, 6, 5, 5]])

    def test_behind_a_move_that_drives_out(self):
        # 0 drives out 1; 2, which moves in vain, is driven out by 3.
        begin = [*lands(7, *combinations(range(7), 2)), *armies(0, 1, 2, 3, 4, 5, 6), *moves((0, 1), (2, 6), (3, 2)),
                 ("aid", 4, 0, 1), ("aid", 5, 3, 2)]
        self.assertEqual(last(*begin, ("behind", 0)), [0, 7, 0, 1, 1, -1, 2, -1, 3, 2, 4, 4, 5, 5, 6, 6])

    def test_behind_keeps_the_order_in_which_units_were_set(self):
        begin = [*lands(4, (0, 1)), *[("unit", p, ARMY, p, 0) for p in (3, 0, 2)], *moves((0, 1))]
        self.assertEqual(last(*begin, ("behind", 0)), [0, 3, 3, 3, 0, 1, 2, 2])

    def test_behind_after_gone_and_a_new_unit(self):
        begin = [*lands(4, (0, 1)), *[("unit", p, ARMY, p, 0) for p in (3, 0, 2)]]
        self.assertEqual(last(*begin, ("gone", 3), ("behind", 0)), [0, 2, 0, 0, 2, 2])
        again = [("gone", 3), ("unit", 6, ARMY, 3, 0), ("move", 0, 1, 0, 0)]
        self.assertEqual(last(*begin, *again, ("behind", 0)), [0, 3, 0, 1, 2, 2, 3, 3])
        # A new order, or a unit that is refused, changes no place in the row.
        refused = [("unit", 1, ARMY, 3, 0), ("hold", 3), ("gone", 1)]
        self.assertEqual(last(*begin, *refused, ("behind", 0)), [0, 3, 3, 3, 0, 0, 2, 2])

    def test_rings(self):
        self.assertEqual(last(("rings",)), [0, 1, 0])
        self.assertEqual(last(*ONE, ("rings",)), [0, 1, 0])
        self.assertEqual(last(*RING, ("rings",)), [0, 2, 1, 1])

    def test_where_there_is_no_outcome(self):
        calls = [*[(name,) for name in NO_NUMBERS], ("outcome", 0), ("join", 0, 0), ("behind", 0)]
        self.assertEqual(asked(NONE, *calls), [
            [0, 0], [0, 2, 0, 3, 2, 0, 3], [0, 0], [0, -1, -1], [0, 0], [-7], [-7], [-7]])

    def test_outcomes_rise_by_their_numbers(self):
        # Two rings, 0-4-2 and 1-5-3; the moves count 1, 2, 4, 8, 16, 32 from 0 on.
        begin = [*lands(6, *combinations(range(6), 2)), *armies(0, 1, 2, 3, 4, 5),
                 *moves((0, 4), (4, 2), (2, 0), (1, 5), (5, 3), (3, 1))]
        tellings = [[], [0, 2, 4], [1, 3, 5], [0, 1, 2, 3, 4, 5]]
        self.assertEqual(found(*begin), [(told, []) for told in tellings])
        self.assertEqual(asked(begin, ("rings",), ("ends",), ("join", 1, 2), ("join", 0, 3), ("sure",)), [
            [0, 4, 2, 2, 2, 2], [0, 0, 3], [0, 1, 1], [0, 1, 1], [0, 0, 0]])


class Checks(unittest.TestCase):
    def test_provinces_that_come_twice(self):
        given = asked(RING, ("check", 4, 4), ("check", 2, 1, 0, 4, 2, 1), ("check", 3, 3), ("check", *[4] * 24))
        self.assertEqual(given, [[0, 1], [0, 1], [0, 0], [0, 1]])

    def test_in_any_order(self):
        for told in ((4, 2, 1, 0), (1, 4, 0, 2), (2, 0, 4, 1)):
            self.assertEqual(last(*RING, ("check", *told)), [0, 1])

    def test_none(self):
        self.assertEqual(last(("check",)), [0, 1])
        self.assertEqual(last(*ONE, ("check",)), [0, 1])
        self.assertEqual(last(*RING, ("check",)), [0, 0])

    def test_no_unit_that_moves(self):
        # 5 stands, 6 has no unit.
        for told in ((5,), (6,), (4, 5), (6, 4), (0, 1, 2, 4, 5), (5, 5)):
            with self.subTest(told=told):
                self.assertEqual(last(*RING, ("check", *told)), [-7])

    def test_more_than_eight_move(self):
        self.assertEqual(asked(eight(9), ("check", *range(9)), ("check", *range(8)), ("check", 9)), [[0, 1], [0, 0], [-7]])

    def test_twenty_four_move(self):
        ring = [(p, (p + 1) % 24) for p in range(24)]
        begin = [*lands(25, *ring), *armies(*[p % 7 for p in range(24)]), *moves(*ring)]
        given = asked(begin, ("check", *range(24)), ("check",), ("check", *range(23)), ("check", *range(24), 0), ("moves",))
        self.assertEqual(given, [[0, 1], [0, 1], [0, 0], [-1], [0, 24, *range(24)]])

    def test_each_number_outside(self):
        for wrong in (-FAR, -2, -1, 7, 8, FAR):
            for told in ((wrong,), (4, wrong), (wrong, 4), (*[4] * 23, wrong)):
                with self.subTest(told=told):
                    self.assertEqual(last(*RING, ("check", *told)), [-1])

    def test_each_number_at_its_edges(self):
        self.assertEqual(asked(RING, ("check", 0), ("check", 6)), [[0, 0], [-7]])
        self.assertEqual(asked(eight(9), ("check", 17), ("check", 18)), [[-7], [-1]])

    def test_no_province_at_all(self):
        self.assertEqual(last(("check", 0)), [-1])

    def test_how_many_provinces(self):
        for count, expected in ((23, [0, 1]), (24, [0, 1]), (25, [-1]), (26, [-1]), (98, [-1]), (99, [-1])):
            with self.subTest(count=count):
                self.assertEqual(last(*RING, ("check", *[4] * count)), expected)

    def test_order_of_refusals(self):
        # -1 before -7, whichever number comes first, and also where there are too many.
        for told in ((5, -1), (-1, 5), (6, 7), (7, 6), tuple([5] * 25), tuple([6] * 99)):
            with self.subTest(told=told):
                self.assertEqual(last(*RING, ("check", *told)), [-1])


class Refusals(unittest.TestCase):
    ALL = [*[(name,) for name in NO_NUMBERS], ("outcome", 0), ("join", 0, 0), ("behind", 0)]

    def test_nine_units_move(self):
        self.assertEqual(asked(eight(9), *self.ALL), [[-6]] * 8)

    def test_eight_units_move(self):
        self.assertEqual([row[0] for row in asked(eight(8), *self.ALL)], [0] * 8)
        self.assertEqual(last(*eight(8), ("outcome", 0)), [0, 8, *range(8), 0])

    def test_units_that_stand_are_not_counted(self):
        # The ninth move counts as hold; with its link it counts as a move.
        begin = [*eight(8), ("move", 8, 16, 0, 0)]
        self.assertEqual(last(*begin, ("outcomes",)), [0, 1])
        self.assertEqual(asked(begin, ("land", 8, 16), ("outcomes",), ("hold", 0), ("outcomes",)), [[0], [-6], [0], [0, 1]])

    def test_before_the_place(self):
        for i in (-FAR, -1, 0, 1, FAR):
            self.assertEqual(asked(eight(9), ("outcome", i), ("behind", i), ("join", i, 0), ("join", 0, i)), [[-6]] * 4)

    def test_places_without_an_outcome(self):
        for begin, count in ((NONE, 0), (ONE, 1), (RING, 2)):
            for i in (-FAR, -2, -1, count, count + 1, FAR):
                calls = [("outcome", i), ("behind", i), ("join", i, 0), ("join", 0, i), ("join", i, i)]
                with self.subTest(count=count, i=i):
                    self.assertEqual(asked(begin, *calls), [[-7]] * 5)

    def test_places_at_their_edges(self):
        for begin, count in ((ONE, 1), (RING, 2)):
            for i in (0, count - 1):
                calls = [("outcome", i), ("behind", i), ("join", i, 0), ("join", 0, i), ("join", i, i)]
                self.assertEqual([row[0] for row in asked(begin, *calls)], [0] * 5)

    def test_a_refusal_is_its_number_alone(self):
        self.assertEqual(answers([12, 1, 0, 0, 14, 1, 1, 0, 18, 2, 0, 1, 0, 19, 1, -1, 0]), [1, -1, 1, -7, 1, -7, 1, -7])


class Form(unittest.TestCase):
    def test_each_call_by_its_numbers(self):
        calls = [11, 0, 0, 12, 0, 0, 13, 0, 0, 14, 1, 0, 0, 15, 0, 0, 16, 0, 0, 17, 0, 0, 18, 2, 0, 0, 0, 19, 1, 0, 0,
                 20, 0, 0]
        self.assertEqual(answers(calls), [
            2, 0, 0, 2, 0, 1, 2, 0, 1, 3, 0, 0, 0, 3, 0, 0, 0, 3, 0, 1, 0, 3, 0, 0, 0, 3, 0, 1, 1, 2, 0, 0, 3, 0, 1, 0])

    def test_whole_numbers_alone(self):
        calls = [("moves",), ("check", 4), ("check", 3), *[(name,) for name in NO_NUMBERS],
                 ("outcome", 1), ("join", 0, 1), ("behind", 1)]
        for begin in (RING, ONE, NONE):
            given = answers(listed([*begin, *calls]))
            self.assertEqual({number.__class__ for number in given}, {int})

    def test_what_is_handed_in_stays(self):
        calls = listed([*RING, ("check", 4, 2, 1, 0, 4), ("rings",), ("behind", 1), ("join", 1, 0), ("sure",)])
        before = list(calls)
        first = answers(calls)
        self.assertEqual(calls, before)
        self.assertEqual(answers(calls), first)


class Nothing_changes(unittest.TestCase):
    CALLS = [("moves",), ("check",), ("check", 0), ("check", 9), *[(name,) for name in NO_NUMBERS],
             ("outcome", 0), ("outcome", 1), ("outcome", 9), ("join", 0, 1), ("behind", 0), ("behind", 1)]

    def test_the_board(self):
        for begin in (RING, ONE, NONE):
            board = laid(*begin)
            before = kept(board)
            for name, *numbers in self.CALLS:
                ask(field_of(board), NAMES.index(name), numbers)
                with self.subTest(name=name, numbers=numbers):
                    self.assertEqual(kept(board), before)

    def test_what_is_answered_behind_them(self):
        for begin in (RING, ONE, NONE):
            once = asked(begin, *self.CALLS)
            self.assertEqual(asked(begin, *self.CALLS, *self.CALLS), once * 2)
            self.assertEqual(asked(begin, *self.CALLS[::-1]), once[::-1])

    def test_orders_between_them_count(self):
        given = asked(ONE, ("sure",), ("hold", 0), ("sure",), ("move", 0, 1, 0, 0), ("gone", 1), ("sure",),
                      ("move", 0, 2, 0, 0), ("sure",))
        self.assertEqual([given[k] for k in (0, 2, 5, 7)], [[0, 0, 1, 0], [0, 0, 0], [0, 1, 0, 0], [0, 0, 0]])

    def test_a_refused_call_between_them(self):
        given = asked(RING, ("outcomes",), ("unit", 0, ARMY, 0, 0), ("outcomes",), ("gone", 6), ("sure",))
        self.assertEqual(given, [[0, 2], [-4], [0, 2], [-5], [0, 1, 4, 1, 3]])


if __name__ == "__main__":
    unittest.main()
