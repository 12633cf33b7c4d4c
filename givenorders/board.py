"""The board that a line of calls lays: provinces, links, units and their orders."""

LAND = 0
SEA = 1
COAST = 2

SHORES = 4

HOLD = 6
MOVE = 7
STAY = 8
AID = 9
CARRY = 10


class Unit:
    """A unit of a power, at a shore of its province.

    Its order is the place of the call that gave it, then that call's numbers behind the unit's own province.
    It is kept as it was given, since what it counts as may change with the board.
    """

    def __init__(self, power, fleet, shore):
        self.power = power
        self.fleet = fleet
        self.shore = shore
        self.order = (HOLD,)


class Board:
    """The kinds of the provinces, the links of land and of sea, and the units by their provinces.

    Links are kept both ways, so that to ask for one is to look for one key.
    The units are in the order in which they were set.
    """

    def __init__(self):
        self.kinds = []
        self.land_links = {}
        self.sea_links = {}
        self.units = {}
