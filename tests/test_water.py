"""Ways over water: chains of fleets, fleets that are driven out, and outcomes that hang on a way."""

import unittest

from tests.helper import ARMY, COAST, FLEET, SEA, found, last, moves, provinces, rows

# An army in 0 moves to the coast 1; 2 to 5 are seas, 6 and 7 coasts for whoever meddles.
TABLE = [*provinces(COAST, COAST, SEA, SEA, SEA, SEA, COAST, COAST), ("unit", 0, ARMY, 0, 0), ("move", 0, 1, 0, 1)]
GOES, WAITS = [([0], [0])], [([], [])]


def seas(*pairs):
    return [("sea", p, 0, q, 0) for p, q in pairs]


def fleets(*places):
    """Fleets that carry the army, at shore 0."""
    return [call for p in places for call in (("unit", 1, FLEET, p, 0), ("carry", p, 0, 1))]


def attack(p, q, helper, power=2):
    """A fleet moves from p to q with a fleet's help."""
    return [("unit", power, FLEET, p, 0), ("unit", power, FLEET, helper, 0), *moves((p, q)), ("aid", helper, p, q)]


class Chains(unittest.TestCase):
    def test_no_fleet(self):
        self.assertEqual(found(*TABLE, *seas((0, 2), (2, 1))), WAITS)

    def test_one_fleet(self):
        self.assertEqual(found(*TABLE, *seas((0, 2), (2, 1)), *fleets(2)), GOES)
        self.assertEqual(found(*TABLE, *seas((2, 0), (1, 2)), *fleets(2)), GOES)

    def test_one_fleet_that_is_joined_with_one_end(self):
        self.assertEqual(found(*TABLE, *seas((0, 2)), *fleets(2)), WAITS)
        self.assertEqual(found(*TABLE, *seas((2, 1)), *fleets(2)), WAITS)

    def test_a_link_between_the_coasts_is_no_chain(self):
        self.assertEqual(found(*TABLE, *seas((0, 1))), WAITS)
        self.assertEqual(found(*TABLE, *seas((0, 1), (0, 2)), *fleets(2)), WAITS)

    def test_several_fleets(self):
        links = seas((0, 2), (2, 3), (3, 4), (4, 5), (5, 1))
        self.assertEqual(found(*TABLE, *links, *fleets(2, 3, 4, 5)), GOES)
        self.assertEqual(found(*TABLE, *links, *fleets(5, 3, 2, 4)), GOES)
        for missing in (2, 3, 4, 5):
            with self.subTest(missing=missing):
                self.assertEqual(found(*TABLE, *links, *fleets(*[p for p in (2, 3, 4, 5) if p != missing])), WAITS)

    def test_each_link_is_needed(self):
        links = seas((0, 4), (4, 2), (2, 5), (5, 3), (3, 1))
        self.assertEqual(found(*TABLE, *links, *fleets(2, 3, 4, 5)), GOES)
        for link in links:
            with self.subTest(link=link):
                self.assertEqual(found(*TABLE, *[k for k in links if k != link], *fleets(2, 3, 4, 5)), WAITS)

    def test_a_fleet_too_many(self):
        self.assertEqual(found(*TABLE, *seas((0, 2), (2, 1), (2, 3), (0, 4)), *fleets(2, 3, 4, 5)), GOES)

    def test_a_round_of_fleets_comes_to_an_end(self):
        links = seas((0, 2), (2, 3), (3, 4), (4, 2))
        self.assertEqual(found(*TABLE, *links, *fleets(2, 3, 4)), WAITS)

    def test_the_carry_is_of_that_move(self):
        begin = [*TABLE, *seas((0, 2), (2, 1)), ("unit", 1, FLEET, 2, 0)]
        self.assertEqual(found(*begin, ("carry", 2, 0, 1)), GOES)
        for order in (("carry", 2, 1, 0), ("carry", 2, 0, 6), ("carry", 2, 6, 1), ("hold", 2), ("stay", 2, 1),
                      ("aid", 2, 0, 1)):
            with self.subTest(order=order):
                self.assertEqual(found(*begin, order), WAITS)

    def test_a_chain_of_fleets_with_two_carries_is_none(self):
        begin = [*TABLE, *seas((0, 2), (2, 3), (3, 1)), *fleets(2, 3)]
        self.assertEqual(found(*begin), GOES)
        self.assertEqual(found(*begin, ("carry", 3, 6, 1)), WAITS)

    def test_fleets_of_any_power(self):
        for power in range(7):
            begin = [*TABLE, *seas((0, 2), (2, 1)), ("unit", power, FLEET, 2, 0), ("carry", 2, 0, 1)]
            self.assertEqual(found(*begin), GOES)


class Shores(unittest.TestCase):
    def test_of_the_fleet(self):
        for shore in range(4):
            begin = [*TABLE, ("sea", 0, 0, 2, 2), ("sea", 1, 0, 2, 2),
                     ("unit", 1, FLEET, 2, shore), ("carry", 2, 0, 1)]
            with self.subTest(shore=shore):
                self.assertEqual(found(*begin), GOES if shore == 2 else WAITS)

    def test_of_the_coasts(self):
        for s in range(4):
            for t in range(4):
                begin = [*TABLE, ("sea", 0, s, 2, 0), ("sea", 1, t, 2, 0), *fleets(2)]
                with self.subTest(s=s, t=t):
                    self.assertEqual(found(*begin), GOES)

    def test_between_fleets(self):
        # The fleets' very places must be joined, not just their provinces.
        for s in range(4):
            for t in range(4):
                begin = [*TABLE, ("sea", 0, 0, 2, 1), ("sea", 1, 0, 3, 2), ("sea", 2, s, 3, t),
                         ("unit", 1, FLEET, 2, 1), ("carry", 2, 0, 1), ("unit", 1, FLEET, 3, 2), ("carry", 3, 0, 1)]
                with self.subTest(s=s, t=t):
                    self.assertEqual(found(*begin), GOES if (s, t) == (1, 2) else WAITS)


class Driven_out(unittest.TestCase):
    LINKS = seas((0, 2), (2, 1), (4, 2), (5, 2))

    def test_a_fleet_that_is_driven_out_carries_nobody(self):
        begin = [*TABLE, *self.LINKS, *fleets(2), *attack(4, 2, 5)]
        self.assertEqual(found(*begin), [([4], [])])
        self.assertEqual(last(*begin, ("behind", 0)), [0, 4, 0, 0, 2, -1, 4, 2, 5, 5])

    def test_a_fleet_that_is_attacked_in_vain_does(self):
        begin = [*TABLE, *self.LINKS, *fleets(2), *attack(4, 2, 5)]
        self.assertEqual(found(*begin, ("hold", 5)), GOES)
        self.assertEqual(found(*begin, ("gone", 5)), GOES)

    def test_by_its_own_power_it_is_not_driven_out(self):
        self.assertEqual(found(*TABLE, *self.LINKS, *fleets(2), *attack(4, 2, 5, power=1)), GOES)

    def test_one_link_of_a_chain(self):
        for out in (2, 3):
            begin = [*TABLE, *seas((0, 2), (2, 3), (3, 1), (4, out), (5, out)), *fleets(2, 3), *attack(4, out, 5)]
            with self.subTest(out=out):
                self.assertEqual(found(*begin), [([4], [])])

    def test_two_chains(self):
        both = seas((0, 2), (2, 1), (0, 3), (3, 1))
        for out in (2, 3):
            begin = [*TABLE, *both, *seas((4, out), (5, out)), *fleets(2, 3), *attack(4, out, 5)]
            with self.subTest(out=out):
                self.assertEqual(found(*begin), [([0, 4], [0])])

    def test_two_chains_that_meet(self):
        # 0-2-4-1 and 0-3-4-1: what is common to both is needed.
        links = seas((0, 2), (0, 3), (2, 4), (3, 4), (4, 1))
        begin = [*TABLE, *links, *fleets(2, 3, 4)]
        for out, expected in ((2, [([0, 6], [0])]), (3, [([0, 6], [0])]), (4, [([6], [])])):
            more = [*seas((6, out), (7, out)), *attack(6, out, 7)]
            with self.subTest(out=out):
                self.assertEqual(found(*begin, *more), expected)


class Ways_and_moves(unittest.TestCase):
    BEGIN = [*TABLE, *seas((0, 2), (2, 1)), *fleets(2)]

    def test_a_way_without_going(self):
        self.assertEqual(found(*self.BEGIN, ("unit", 3, ARMY, 1, 0)), [([], [0])])

    def test_help_for_one_that_is_carried(self):
        more = [("unit", 3, ARMY, 1, 0), ("unit", 4, ARMY, 6, 0), ("land", 1, 6), ("aid", 6, 0, 1)]
        self.assertEqual(found(*self.BEGIN, *more), [([0], [0])])

    def test_what_moves_by_land_has_no_way(self):
        self.assertEqual(found(*self.BEGIN, ("land", 0, 1)), [([0], [0])])
        self.assertEqual(found(*self.BEGIN, ("land", 0, 1), *moves((0, 1))), [([0], [])])

    def test_several_ways_rise(self):
        more = [("unit", 2, ARMY, 7, 0), ("move", 7, 6, 0, 1), *seas((7, 3), (3, 6)),
                ("unit", 2, FLEET, 3, 0), ("carry", 3, 7, 6)]
        self.assertEqual(found(*self.BEGIN, *more), [([0, 7], [0, 7])])


# A fleet in 1 helps the fleet from 4 against the fleet in 2, which carries the army from 0 into 1.
CUTS_HELP_AGAINST = [
    *TABLE, *seas((0, 2), (2, 1), (4, 2)), *fleets(2),
    ("unit", 2, FLEET, 1, 0), ("unit", 2, FLEET, 4, 0), *moves((4, 2)), ("aid", 1, 4, 2),
]
# A fleet in 1 helps the fleet in 2 to stay, which carries the army from 0 into 1 and is attacked with help.
CUTS_HELP_FOR = [
    *TABLE, *seas((0, 2), (2, 1), (4, 2), (5, 2)), *fleets(2),
    ("unit", 3, FLEET, 1, 0), ("stay", 1, 2), *attack(4, 2, 5),
]


class Hanging_on_a_way(unittest.TestCase):
    def test_cutting_help_against_its_own_fleet(self):
        # With a way it cuts the help, so that its fleet stays; without, its fleet is driven out.
        self.assertEqual(found(*CUTS_HELP_AGAINST), [([], [0]), ([4], [])])
        given = rows(*CUTS_HELP_AGAINST, ("kinds",), ("ends",), ("sure",), ("rings",), ("join", 0, 1))[-5:]
        self.assertEqual(given, [[0, 2, 1, 0, 0], [0, 0, 1], [0, 0, 1, 0], [0, 2, 0, 0], [0, 1, 1]])

    def test_neither_is_more_than_the_other(self):
        # Now the army goes where it has a way: it is helped.
        begin = [*CUTS_HELP_AGAINST, ("unit", 0, ARMY, 6, 0), ("land", 6, 1), ("aid", 6, 0, 1)]
        self.assertEqual(found(*begin), [([0], [0]), ([4], [])])
        given = rows(*begin, ("kinds",), ("ends",), ("sure",), ("join", 0, 1), ("join", 1, 1))[-5:]
        self.assertEqual(given, [[0, 2, 1, 0, 0], [0, -1, -1], [0, 0, 0], [0, 0, 0], [0, 1, 1]])

    def test_cutting_help_for_its_own_fleet(self):
        # With a way it cuts the help and has none any more; without, the help counts and it has one.
        self.assertEqual(last(*CUTS_HELP_FOR, ("outcomes",)), [0, 0])
        given = rows(*CUTS_HELP_FOR, ("check",), ("check", 0), ("check", 4), ("check", 0, 4))[-4:]
        self.assertEqual(given, [[0, 0]] * 4)

    def test_of_the_same_power_nothing_is_cut(self):
        same = [("gone", 1), ("unit", 0, FLEET, 1, 0)]
        self.assertEqual(found(*CUTS_HELP_AGAINST, *same, ("aid", 1, 4, 2)), [([4], [])])
        self.assertEqual(found(*CUTS_HELP_FOR, *same, ("stay", 1, 2)), [([], [0])])

    def test_a_second_chain_settles_it(self):
        second = [*seas((0, 3), (3, 1)), *fleets(3)]
        self.assertEqual(found(*CUTS_HELP_AGAINST, *second), [([], [0])])
        self.assertEqual(found(*CUTS_HELP_FOR, *second), [([4], [0])])

    def test_two_at_once(self):
        # Two such boards side by side have four outcomes, and as many sets of ways.
        kinds = [COAST, COAST, SEA, SEA] * 2
        begin = provinces(*kinds)
        for base in (0, 4):
            a, b, fleet, other = range(base, base + 4)
            begin += [*seas((a, fleet), (fleet, b), (other, fleet)), ("unit", 0, ARMY, a, 0), ("move", a, b, 0, 1),
                      ("unit", 1, FLEET, fleet, 0), ("carry", fleet, a, b), ("unit", 2, FLEET, b, 0),
                      ("aid", b, other, fleet), ("unit", 2, FLEET, other, 0), *moves((other, fleet))]
        self.assertEqual(found(*begin), [([], [0, 4]), ([3], [4]), ([7], [0]), ([3, 7], [])])
        given = rows(*begin, ("kinds",), ("ends",), ("sure",), ("rings",), ("join", 1, 2))[-5:]
        self.assertEqual(given, [
            [0, 4, 2, 0, 4, 1, 4, 1, 0, 0], [0, 0, 3], [0, 0, 2, 0, 4], [0, 4, 0, 0, 0, 0], [0, 1, 1]])


if __name__ == "__main__":
    unittest.main()
