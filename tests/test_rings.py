"""Rings of moves that may all go or all stay."""

import unittest
from itertools import combinations

from givenorders.field import field_of
from givenorders.rings import settled, undecided
from tests.helper import ARMY, COAST, FLEET, SEA, armies, found, laid, lands, last, moves, provinces

ALL = lands(9, *combinations(range(9), 2))


def ring(count, powers=None):
    """Armies from 0 on that each move into the next one's province, the last into the first one's."""
    return [*ALL, *armies(*(powers or range(count))), *moves(*[(p, (p + 1) % count) for p in range(count)])]


def swaps(count):
    """So many pairs of armies that change places, one of each pair by water."""
    calls = provinces(*[COAST, COAST, SEA] * count)
    for p in range(0, 3 * count, 3):
        calls += [("land", p, p + 1), ("sea", p, 0, p + 2, 0), ("sea", p + 1, 0, p + 2, 0),
                  ("unit", 0, ARMY, p, 0), ("unit", 1, ARMY, p + 1, 0), ("unit", 2, FLEET, p + 2, 0),
                  ("move", p, p + 1, 0, 0), ("move", p + 1, p, 0, 1), ("carry", p + 2, p + 1, p)]
    return calls


class Rings(unittest.TestCase):
    def check(self, calls, outcomes, rings):
        self.assertEqual([told for told, ways in found(*calls)], outcomes)
        self.assertEqual(last(*calls, ("rings",)), [0, len(rings), *rings])

    def test_of_three_and_more(self):
        for count in range(3, 8):
            with self.subTest(count=count):
                self.check(ring(count), [[], list(range(count))], [1, 1])

    def test_of_eight(self):
        self.check(ring(8, [0, 1, 2, 3, 4, 5, 6, 0]), [[], list(range(8))], [1, 1])

    def test_of_two_by_land_is_none(self):
        self.check(ring(2), [[]], [0])

    def test_of_two_by_water(self):
        self.check(swaps(1), [[], [0, 1]], [1, 1])
        self.assertEqual(found(*swaps(1)), [([], [1]), ([0, 1], [1])])

    def test_of_one_power(self):
        for count in (3, 4):
            with self.subTest(count=count):
                self.check(ring(count, [3] * count), [[], list(range(count))], [1, 1])

    def test_several(self):
        self.check(swaps(2), [[], [0, 1], [3, 4], [0, 1, 3, 4]], [2] * 4)
        self.assertEqual(last(*swaps(4), ("rings",)), [0, 16, *[4] * 16])

    def test_helped_it_goes_for_sure(self):
        begin = [*ring(3), ("unit", 5, ARMY, 3, 0), ("aid", 3, 0, 1)]
        self.check(begin, [[0, 1, 2]], [0])

    def test_help_that_is_cut_is_none(self):
        begin = [*ring(3), ("unit", 5, ARMY, 3, 0), ("aid", 3, 0, 1), ("unit", 6, ARMY, 4, 0), *moves((4, 3))]
        self.check(begin, [[], [0, 1, 2]], [1, 1])

    def test_help_of_the_power_in_the_goal(self):
        # It doesn't push 1 out, but it keeps 4 out once 1 has left.
        begin = [*ring(3), ("unit", 1, ARMY, 3, 0), ("aid", 3, 0, 1)]
        self.check(begin, [[], [0, 1, 2]], [1, 1])
        self.check([*begin, ("unit", 5, ARMY, 4, 0), *moves((4, 1))], [[], [0, 1, 2]], [1, 1])

    def test_one_more_move_into_it_stops_it(self):
        begin = [*ring(3), ("unit", 5, ARMY, 3, 0), *moves((3, 1))]
        self.check(begin, [[]], [0])

    def test_one_more_move_with_help_breaks_it(self):
        begin = [*ring(3), ("unit", 5, ARMY, 3, 0), *moves((3, 1)), ("unit", 5, ARMY, 4, 0), ("aid", 4, 3, 1)]
        self.check(begin, [[3]], [0])

    def test_one_that_stands_is_no_part_of_a_ring(self):
        self.check([*ring(4), ("hold", 2)], [[]], [0])

    def test_one_that_moves_elsewhere_is_no_part_of_a_ring(self):
        self.check([*ring(4), *moves((2, 5))], [[0, 1, 2, 3]], [0])

    def test_a_move_that_leads_into_a_ring(self):
        # Without its way it stops nobody.
        begin = [*swaps(1), *provinces(COAST), ("unit", 4, ARMY, 3, 0), ("move", 3, 0, 0, 1)]
        self.check(begin, [[], [0, 1]], [1, 1])
        more = [*provinces(SEA), ("sea", 3, 0, 4, 0), ("sea", 0, 0, 4, 0), ("unit", 4, FLEET, 4, 0), ("carry", 4, 3, 0)]
        self.check([*begin, *more], [[]], [0])

    def test_no_ring_without_its_way(self):
        self.check([*swaps(1), ("hold", 2)], [[]], [0])
        attack = [*provinces(SEA, SEA), ("sea", 2, 0, 3, 0), ("sea", 2, 0, 4, 0), ("unit", 5, FLEET, 3, 0),
                  ("unit", 5, FLEET, 4, 0), ("move", 3, 2, 0, 0), ("aid", 4, 3, 2)]
        self.check([*swaps(1), *attack], [[3]], [0])
        self.check([*swaps(1), *attack, ("hold", 4)], [[], [0, 1]], [1, 1])

    def test_one_ring_of_two_has_its_way(self):
        self.check([*swaps(2), ("hold", 5)], [[], [0, 1]], [1, 1])

    def test_beside_an_outcome_that_hangs_on_a_way(self):
        # A ring of three, and an army that cuts the help against the fleet that carries it.
        begin = [
            *provinces(COAST, COAST, SEA, SEA, COAST, COAST, COAST), ("land", 4, 5), ("land", 5, 6), ("land", 6, 4),
            *[("sea", p, 0, 2, 0) for p in (0, 1, 3)],
            ("unit", 0, ARMY, 0, 0), ("move", 0, 1, 0, 1), ("unit", 1, FLEET, 2, 0), ("carry", 2, 0, 1),
            ("unit", 2, FLEET, 1, 0), ("unit", 2, FLEET, 3, 0), ("move", 3, 2, 0, 0), ("aid", 1, 3, 2),
            *[("unit", p, ARMY, p, 0) for p in (4, 5, 6)], *moves((4, 5), (5, 6), (6, 4)),
        ]
        self.assertEqual(found(*begin), [([], [0]), ([3], []), ([4, 5, 6], [0]), ([3, 4, 5, 6], [])])
        self.assertEqual(last(*begin, ("rings",)), [0, 4, 1, 1, 1, 1])
        self.assertEqual(last(*begin, ("kinds",)), [0, 2, 1, 0, 0])

    def test_open_moves(self):
        self.assertEqual(undecided(field_of(laid(*ring(4))), ()), [0, 1, 2, 3])
        self.assertEqual(undecided(field_of(laid(*ring(4), ("hold", 2))), ()), [])
        self.assertEqual(undecided(field_of(laid(*swaps(2))), (4,)), [3, 4])
        self.assertEqual(undecided(field_of(laid(*swaps(2))), (1, 4)), [0, 1, 3, 4])

    def test_moves_that_are_worked_out_first(self):
        # 0 drives out 1, which stands; 2 goes into an empty province; 3 goes into 5, which leaves it; 6 into 1 bounces.
        begin = [*ALL, *armies(0, 1, 2, 3, 4, 5, 6), *moves((0, 1), (2, 7), (3, 5), (5, 8), (6, 1)), ("aid", 4, 0, 1)]
        self.assertEqual(settled(field_of(laid(*begin)), ()), (0,))


if __name__ == "__main__":
    unittest.main()
