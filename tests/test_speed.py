"""Long lines with as much to look at as a table holds are answered in a few seconds."""

import time
import unittest

from tests.helper import ARMY, COAST, FLEET, SEA, provinces, rows

SECONDS = 5

NAMES = (("outcomes",), ("outcome", 0), ("sure",), ("kinds",), ("ends",), ("join", 0, 0), ("behind", 0), ("rings",))


def swapping():
    """Four pairs of armies that change places, all by water, each carried by two fleets: sixteen outcomes."""
    calls = [*provinces(*[COAST] * 8, *[SEA] * 32)]
    for p in range(8):
        other = p + 1 if p % 2 == 0 else p - 1
        first, second = 8 + 2 * p, 9 + 2 * p
        calls += [("unit", p % 7, ARMY, p, 0), ("move", p, other, 0, 1)]
        for fleet in (first, second):
            calls += [("unit", p % 7, FLEET, fleet, 0), ("carry", fleet, p, other)]
        calls += [("sea", p, 0, first, 0), ("sea", first, 0, second, 0), ("sea", second, 0, other, 0)]
    return calls


def chained():
    """Sixteen fleets, each joined with each, carry one army in vain; seven fleets go round: two outcomes."""
    calls = [*provinces(*[COAST] * 9, *[SEA] * 31), ("unit", 0, ARMY, 0, 0), ("move", 0, 8, 0, 1)]
    for p in range(1, 8):
        after = p % 7 + 1
        calls += [("sea", p, 0, after, 0), ("unit", p % 7, FLEET, p, 0), ("move", p, after, 0, 0)]
    for fleet in range(9, 25):
        calls += [("unit", 1, FLEET, fleet, 0), ("carry", fleet, 0, 8)]
        calls += [("sea", fleet, 0, other, 0) for other in range(9, fleet)]
    return [*calls, ("sea", 0, 0, 9, 0)]


class Speed(unittest.TestCase):
    def timed(self, begin, asks):
        """What is answered behind the beginning, which must not take long."""
        start = time.perf_counter()
        given = rows(*begin, *asks)
        self.assertLess(time.perf_counter() - start, SECONDS)
        self.assertEqual({row[0] for row in given[:len(begin)]}, {0})
        return given[len(begin):]

    def test_forty_calls_on_one_board(self):
        for begin, count in ((swapping(), 16), (chained(), 2)):
            given = self.timed(begin, NAMES * 5)
            self.assertEqual(given[0], [0, count])
            self.assertEqual(given, given[:8] * 5)

    def test_forty_calls_with_an_order_before_each(self):
        # Without its first fleet the army in 0 has no way, so that one of the four pairs stays.
        orders = (("hold", 8), ("carry", 8, 0, 1))
        asks = [call for name in NAMES * 3 for order in orders for call in (order, name)][:80]
        given = self.timed(swapping(), asks)
        self.assertEqual(given[:4], [[0], [0, 8], [0], [0, 16]])
        self.assertEqual(given[28:32], [[0], [0, 8, *[3] * 8], [0], [0, 16, *[4] * 16]])

    def test_forty_calls_with_a_longer_chain_before_each(self):
        orders = (("hold", 24), ("carry", 24, 0, 8))
        asks = [call for name in NAMES * 3 for order in orders for call in (order, name)][:80]
        given = self.timed(chained(), asks)
        self.assertEqual(given[:4], [[0], [0, 2], [0], [0, 2]])

    def test_forty_calls_with_many_links(self):
        # What is left of a line is filled with links between the other seas.
        begin = swapping()
        seas = [("sea", p, 0, q, 0) for p in range(24, 40) for q in range(p + 1, 40)]
        begin += seas[:400 - 40 - len(begin)]
        given = self.timed(begin, NAMES * 5)
        self.assertEqual(given[7], [0, 16, *[4] * 16])

    def test_as_many_calls_as_a_list_holds(self):
        begin = swapping()
        given = self.timed(begin, (NAMES * 50)[:400 - len(begin)])
        self.assertEqual(given[0], [0, 16])

    def test_checks_with_all_units_moving(self):
        ring = [(p, (p + 1) % 24) for p in range(24)]
        begin = [*provinces(*[COAST] * 40), *[("land", p, q) for p, q in ring],
                 *[("unit", p % 7, ARMY, p, 0) for p in range(24)], *[("move", p, q, 0, 0) for p, q in ring]]
        given = self.timed(begin, [("check", *range(24))] * 280)
        self.assertEqual(given, [[0, 1]] * 280)


if __name__ == "__main__":
    unittest.main()
