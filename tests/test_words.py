"""Lines of calls drawn at random, held against the document's words written down once more, sentence by sentence."""

import random
import unittest
from itertools import combinations

from tests.helper import ARMY, COAST, LAND, SEA, rows


class Words:
    """A table as the words tell it; nothing is worked out ahead, every question is asked anew."""

    def __init__(self):
        self.clear()

    def clear(self):
        self.kind, self.lands, self.seas, self.units = [], set(), set(), []
        return [0]

    def at(self, p):
        return next((unit for unit in self.units if unit["p"] == p), None)

    # The calls 0 to 10; only such are drawn that are done, and a unit that may be there already.

    def province(self, kind):
        self.kind.append(kind)
        return [0, len(self.kind) - 1]

    def land(self, p, q):
        if frozenset((p, q)) in self.lands:
            return [-4]
        self.lands.add(frozenset((p, q)))
        return [0]

    def sea(self, p, s, q, t):
        if frozenset(((p, s), (q, t))) in self.seas:
            return [-4]
        self.seas.add(frozenset(((p, s), (q, t))))
        return [0]

    def unit(self, power, fleet, p, s):
        if self.at(p):
            return [-4]
        self.units.append({"power": power, "fleet": fleet, "p": p, "s": s, "order": ("hold",)})
        return [0]

    def gone(self, p):
        if not self.at(p):
            return [-5]
        self.units.remove(self.at(p))
        return [0]

    def give(self, p, order):
        if not self.at(p):
            return [-5]
        self.at(p)["order"] = order
        return [0]

    def hold(self, p):
        return self.give(p, ("hold",))

    def move(self, p, q, t, water):
        return self.give(p, ("move", q, t, water))

    def stay(self, p, q):
        return self.give(p, ("stay", q))

    def aid(self, p, a, q):
        return self.give(p, ("aid", a, q))

    def carry(self, p, a, q):
        return self.give(p, ("carry", a, q))

    # Orders as they count.

    def joined(self, place, q):
        return any(frozenset((place, (q, t))) in self.seas for t in range(4))

    def reaches(self, unit, q):
        if unit["fleet"]:
            return self.joined((unit["p"], unit["s"]), q)
        return self.kind[q] != SEA and frozenset((unit["p"], q)) in self.lands

    def counts(self, unit):
        name, *rest = unit["order"]
        own = unit["p"]
        if name == "move":
            q, t, water = rest
            if unit["fleet"]:
                link = frozenset(((own, unit["s"]), (q, t)))
                return ("move", q, 0) if not water and q != own and link in self.seas else ("hold",)
            if q != own and not water and self.reaches(unit, q):
                return ("move", q, 0)
            if q != own and self.kind[own] == COAST and self.kind[q] == COAST:
                return ("move", q, 1)
            return ("hold",)
        if name == "stay":
            return unit["order"] if rest[0] != own and self.reaches(unit, rest[0]) else ("hold",)
        if name == "aid":
            a, q = rest
            return unit["order"] if len({a, q, own}) == 3 and self.reaches(unit, q) else ("hold",)
        if name == "carry":
            a, q = rest
            return unit["order"] if unit["fleet"] and self.kind[own] == SEA and a != q else ("hold",)
        return ("hold",)

    def read(self):
        self.orders = {unit["p"]: self.counts(unit) for unit in self.units}
        self.goal = {p: order[1] for p, order in self.orders.items() if order[0] == "move"}
        self.power = {unit["p"]: unit["power"] for unit in self.units}

    # What each comes to, of a telling and the provinces that have a way.

    def has_its_way(self, m, ways):
        return self.orders[m][2] == 0 or m in ways

    def head(self, m, n):
        return (m in self.goal and n in self.goal and self.goal[m] == n and self.goal[n] == m
                and self.orders[m][2] == 0 and self.orders[n][2] == 0)

    def cut(self, h, told, ways):
        order = self.orders[h]
        return any(
            self.goal[m] == h and self.power[m] != self.power[h] and self.has_its_way(m, ways)
            and (order[0] == "stay" or m != order[2] or m in told)
            for m in self.goal)

    def all_cut(self, told, ways):
        return {h for h, order in self.orders.items() if order[0] in ("stay", "aid") and self.cut(h, told, ways)}

    def helpers(self, m, cut):
        return [h for h, order in self.orders.items() if order == ("aid", m, self.goal[m]) and h not in cut]

    def attack(self, m, told, ways, cut):
        q = self.goal[m]
        if not self.has_its_way(m, ways):
            return 0
        if q not in self.orders or (q in told and not self.head(m, q)):
            return 1 + len(self.helpers(m, cut))
        if self.power[q] == self.power[m]:
            return 0
        return 1 + sum(self.power[h] != self.power[q] for h in self.helpers(m, cut))

    def keeps(self, m, told, ways, cut):
        if not self.has_its_way(m, ways) or (self.head(m, self.goal[m]) and self.goal[m] in told):
            return 0
        return 1 + len(self.helpers(m, cut))

    def holds(self, q, told, cut):
        if q not in self.orders:
            return 0
        if q in self.goal:
            return 0 if q in told else 1
        return 1 + sum(order == ("stay", q) and h not in cut for h, order in self.orders.items())

    def goes(self, m, told, ways, cut):
        q = self.goal[m]
        wall = 1 + len(self.helpers(q, cut)) if self.head(m, q) else self.holds(q, told, cut)
        attack = self.attack(m, told, ways, cut)
        return (self.has_its_way(m, ways) and attack > wall
                and all(attack > self.keeps(n, told, ways, cut) for n in self.goal if n != m and self.goal[n] == q))

    def that_go(self, told, ways, cut):
        return {m for m in self.goal if self.goes(m, told, ways, cut)}

    def where(self, p, told):
        if p in told:
            return self.goal[p]
        return -1 if any(self.goal[m] == p for m in told) else p

    def ways(self, told):
        return {m for m in self.goal if self.orders[m][2] == 1 and self.carried(m, self.goal[m], told)}

    def carried(self, a, q, told):
        fleets = [(unit["p"], unit["s"]) for unit in self.units
                  if self.orders[unit["p"]] == ("carry", a, q) and self.where(unit["p"], told) != -1]
        reached = {place for place in fleets if self.joined(place, a)}
        for step in fleets:
            reached |= {f for f in fleets if any(frozenset((f, g)) in self.seas for g in reached)}
        return any(self.joined(place, q) for place in reached)

    def is_outcome(self, told):
        ways = self.ways(told)
        return self.that_go(told, ways, self.all_cut(told, ways)) == set(told)

    def found(self):
        """The outcomes by their numbers."""
        worth = {m: 2 ** k for k, m in enumerate(sorted(self.goal))}
        tellings = [set(c) for size in range(len(worth) + 1) for c in combinations(worth, size)]
        return sorted((t for t in tellings if self.is_outcome(t)), key=lambda t: sum(worth[m] for m in t))

    def rings_by(self, ways):
        settled = {m for m in self.that_go(set(), ways, self.all_cut(set(), ways))
                   if self.orders.get(self.goal[m], ("move",))[0] != "move"}
        cut = self.all_cut(settled, ways)
        ends = []
        for told in (set(self.goal), set()):
            before = None
            while before != told:
                before, told = told, self.that_go(told, ways, cut)
            ends.append(told)
        undecided = ends[0] - ends[1]
        rings = set()
        for m in undecided:
            row, at = [m], self.goal[m]
            while at in undecided and at not in row:
                row.append(at)
                at = self.goal[at]
            if at == m:
                rings.add(frozenset(row))
        return len(rings)

    # The calls 11 to 20.

    def ask(self, name, *numbers):
        self.read()
        if name == "moves":
            return [0, *listing(self.goal)]
        if name == "check":
            if len(numbers) > 24 or any(p not in range(len(self.kind)) for p in numbers):
                return [-1]
            return [0, int(self.is_outcome(set(numbers)))] if set(numbers) <= set(self.goal) else [-7]
        if len(self.goal) > 8:
            return [-6]
        found = self.found()
        if any(i not in range(len(found)) for i in numbers):
            return [-7]
        return [0, *getattr(self, "ask_" + name)(found, *[found[i] for i in numbers])]

    def ask_outcomes(self, found):
        return [len(found)]

    def ask_outcome(self, found, one):
        return listing(one) + listing(self.ways(one))

    def ask_sure(self, found):
        always = [m for m in self.goal if sum(m in one for one in found) == len(found)]
        return listing(always) + listing([m for m in self.goal if sum(m in one for one in found) == 0])

    def ask_kinds(self, found):
        sets = list(dict.fromkeys(tuple(sorted(self.ways(one))) for one in found))
        return [len(sets), *[number for ways in sets for number in listing(ways)]]

    def ask_ends(self, found):
        least = [i for i, one in enumerate(found) if all(one <= other for other in found)]
        greatest = [i for i, one in enumerate(found) if all(one >= other for other in found)]
        return [(least + [-1])[0], (greatest + [-1])[0]]

    def ask_join(self, found, one, other):
        return [int(one | other in found), int(one & other in found)]

    def ask_behind(self, found, one):
        return [len(self.units), *[n for unit in self.units for n in (unit["p"], self.where(unit["p"], one))]]

    def ask_rings(self, found):
        return [len(found), *[self.rings_by(self.ways(one)) for one in found]]

    def do(self, name, *numbers):
        asks = ("moves", "check", "outcomes", "outcome", "sure", "kinds", "ends", "join", "behind", "rings")
        return self.ask(name, *numbers) if name in asks else getattr(self, name)(*numbers)


def listing(provinces):
    return [len(provinces), *sorted(provinces)]


# Small scenes that have more than one outcome or none: the kinds of their provinces, links of land, links of sea,
# units that move (from, to, water), and other orders.
SCENES = (
    ((LAND, LAND, LAND), ((0, 1), (1, 2), (2, 0)), (), ((0, 1, 0), (1, 2, 0), (2, 0, 0)), ()),
    ((LAND,) * 4, ((0, 1), (1, 2), (2, 3), (3, 0)), (), ((0, 1, 0), (1, 2, 0), (2, 3, 0), (3, 0, 0)), ()),
    ((COAST, COAST, SEA), ((0, 1),), ((0, 2), (1, 2)), ((0, 1, 1), (1, 0, 0)), (("carry", 2, 0, 1),)),
    ((COAST, COAST, SEA, SEA), (), ((0, 2), (1, 2), (3, 2)), ((0, 1, 1), (3, 2, 0)),
     (("carry", 2, 0, 1), ("aid", 1, 3, 2))),
    ((COAST, COAST, SEA, SEA, SEA), (), ((0, 2), (1, 2), (3, 2), (4, 2)), ((0, 1, 1), (3, 2, 0)),
     (("carry", 2, 0, 1), ("stay", 1, 2), ("aid", 4, 3, 2))),
    ((COAST, COAST, SEA, SEA, SEA), (), ((0, 2), (2, 1), (0, 3), (3, 1), (4, 2), (4, 3)), ((0, 1, 1), (4, 2, 0)),
     (("carry", 2, 0, 1), ("carry", 3, 0, 1), ("aid", 1, 4, 2))),
    ((COAST, COAST, SEA, COAST, COAST, SEA), (), ((0, 2), (2, 1), (3, 5), (5, 4), (1, 5), (4, 2), (2, 5)),
     ((0, 1, 1), (3, 4, 1)), (("carry", 2, 0, 1), ("carry", 5, 3, 4), ("hold", 1), ("hold", 4))),
    ((COAST, COAST, SEA, COAST, COAST, SEA, SEA, SEA), (),
     ((0, 2), (2, 1), (3, 5), (5, 4), (1, 5), (4, 2), (6, 5), (7, 2)), ((0, 1, 1), (3, 4, 1), (6, 5, 0), (7, 2, 0)),
     (("carry", 2, 0, 1), ("carry", 5, 3, 4), ("aid", 1, 6, 5), ("aid", 4, 7, 2))),
)


class Draw:
    """A line of calls drawn at random: one or two scenes on one table, with more links, units and orders between."""

    def __init__(self, seed):
        self.random = random.Random(seed)
        self.powers = self.random.choice((1, 2, 2, 3, 3, 4, 7))
        self.apart = self.chance(0.3)
        self.shores = self.random.choice(((0,), (0,), (0,), (0, 1), (0, 1, 2, 3)))
        self.kind, self.links, self.units, self.given = [], {}, {}, {}
        for scene in range(self.random.choice((0, 1, 1, 1, 2, 2))):
            self.scene(*self.random.choice(SCENES))
        self.more()
        names = list(range(len(self.kind)))
        self.random.shuffle(names)
        self.names = names

    def chance(self, part):
        return self.random.random() < part

    def scene(self, kinds, lands, seas, moves, others):
        base = len(self.kind)
        self.kind += kinds
        for p, q in lands:
            self.links["land", base + p, base + q] = True
        for p, q in seas:
            self.links["sea", base + p, 0, base + q, 0] = True
        for p, q, water in moves:
            self.give("move", base + p, base + q, 0, water)
        for name, *rest in others:
            self.give(name, *[base + p for p in rest])

    def give(self, name, p, *rest):
        if p not in self.units:
            fleet = int(self.kind[p] == SEA or (self.kind[p] == COAST and (name in ("aid", "stay") or self.chance(0.2))))
            if name == "move" and rest[2] == 1 and self.kind[p] == COAST:
                fleet = ARMY
            power = p % 7 if self.apart else self.random.randrange(self.powers)
            self.units[p] = (power, fleet, self.shore() if fleet else 0)
        self.given[p] = (name, p, *rest)

    def province(self):
        return self.random.randrange(len(self.kind))

    def shore(self):
        return self.random.choice(self.shores)

    def more(self):
        """More provinces, links, units and orders; some of the scene's orders are others now."""
        wet = self.chance(0.6)
        for k in range(self.random.randint(0 if self.kind else 3, 6)):
            self.kind.append(self.random.choice((SEA, COAST, COAST) if wet else (LAND, COAST)))
        part = self.random.choice((0.1, 0.3, 0.5, 0.9))
        for p, q in combinations(range(len(self.kind)), 2):
            kinds = (self.kind[p], self.kind[q])
            if SEA not in kinds and self.chance(part):
                self.links["land", p, q] = True
            if LAND not in kinds:
                self.links |= {("sea", p, self.shore(), q, self.shore()): True for k in self.shores if self.chance(part)}
        for p in range(len(self.kind)):
            if self.chance(0.06) or (p not in self.units and self.chance(0.7)):
                self.give(*self.order(p))

    def near(self, p):
        """A province that is joined with p, mostly."""
        ends = [(call[1], call[-1 if call[0] == "land" else 3]) for call in self.links]
        joined = [a + b - p for a, b in ends if p in (a, b)]
        return self.random.choice(joined) if joined and self.chance(0.9) else self.province()

    def order(self, p):
        moves = [order for order in self.given.values() if order[0] == "move"]
        if self.chance(0.35 if self.kind[p] == SEA else 0.5):
            return "move", p, self.near(p), self.shore(), int(self.chance(0.2))
        if not moves or self.chance(0.1):
            a, q = self.province(), self.province()
        else:
            a, q = self.random.choice([move for move in moves if move[2] == self.near(p)] or moves)[1:3]
        if self.kind[p] == SEA and self.chance(0.7):
            return "carry", p, a, q
        if self.chance(0.35):
            return "stay", p, self.near(p)
        return "aid", p, a, q

    def renamed(self, call):
        """The call with the provinces' last names, so that they don't come in a scene's order."""
        name, *numbers = call
        at = {"land": (0, 1), "sea": (0, 2), "unit": (2,), "gone": (0,), "hold": (0,), "move": (0, 1), "stay": (0, 1),
              "aid": (0, 1, 2), "carry": (0, 1, 2)}[name]
        return (name, *[self.names[number] if k in at else number for k, number in enumerate(numbers)])

    def begin(self):
        kinds = {self.names[p]: kind for p, kind in enumerate(self.kind)}
        # No more links than leave room for the other calls of a line; the scenes' own come first.
        links = list(self.links)[:200]
        units = [("unit", power, fleet, p, s) for p, (power, fleet, s) in self.units.items()]
        self.random.shuffle(units)
        calls = [self.renamed(call) for call in links + units + list(self.given.values())]
        return [("province", kinds[p]) for p in range(len(kinds))] + calls

    def changes(self):
        p, q = self.province(), self.province()
        calls = [("gone", p), ("hold", p), self.order(p), self.order(q), ("gone", q)]
        return [self.renamed(call) for call in self.random.sample(calls, 2)]

    def asks(self, words):
        """Calls of every kind that asks, with places and tellings that are there and such that aren't."""
        words.read()
        moving = sorted(words.goal)
        found = words.found() if len(moving) <= 8 else []
        count = len(found)
        tellings = [[m for m in moving if self.chance(0.5)] for k in range(3)] + [moving, [], *found[:4]]
        calls = [("moves",), ("outcomes",), ("sure",), ("kinds",), ("ends",), ("rings",)]
        calls += [("check", *telling) for telling in tellings] + [("check", self.province())]
        calls += [("outcome", i) for i in range(-1, count + 1)][:9] + [("behind", i) for i in range(-1, count + 1)][:9]
        return calls + [("join", self.random.randint(0, count), self.random.randint(0, count)) for k in range(4)]

    def line(self):
        """The calls of a line and what the words answer to each."""
        words = Words()
        calls, expected = [], []
        for part in (self.begin(), None, self.changes(), None):
            for call in self.asks(words) if part is None else part:
                calls.append(call)
                expected.append(words.do(*call))
        return calls, expected


class Drawn(unittest.TestCase):
    def test_drawn_lines(self):
        for seed in range(300):
            calls, expected = Draw(seed).line()
            given = rows(*calls)
            with self.subTest(seed=seed):
                self.assertEqual(list(zip(calls, given)), list(zip(calls, expected)))


if __name__ == "__main__":
    unittest.main()
