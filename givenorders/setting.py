"""The calls that lay the board, set units and give orders: the places 0 to 10."""

from givenorders.board import LAND, SEA, Unit

CLEAR_CALL = 0
PROVINCE_CALL = 1
LAND_CALL = 2
SEA_CALL = 3
UNIT_CALL = 4
GONE_CALL = 5

OUTSIDE = -1
FULL = -2
UNFIT = -3
TAKEN = -4
NO_UNIT = -5

MOST_PROVINCES = 40
MOST_LINKS = 300
MOST_UNITS = 24

# What each call's numbers stand for, by the call's place.
ASKED = (
    (),
    ("kind",),
    ("province", "province"),
    ("province", "shore", "province", "shore"),
    ("power", "fleet", "province", "shore"),
    ("province",),
    ("province",),
    ("province", "province", "shore", "water"),
    ("province", "province"),
    ("province", "province", "province"),
    ("province", "province", "province"),
)

# Provinces are left out: how far they go hangs on the board.
GREATEST = {"kind": 2, "shore": 3, "power": 6, "fleet": 1, "water": 1}


def is_within(board, meaning, number):
    """Whether a number is in the range told for what it stands for."""
    if meaning == "province":
        return 0 <= number < len(board.kinds)
    return 0 <= number <= GREATEST[meaning]


def all_within(board, place, numbers):
    """Whether each number of a call is in its range."""
    for meaning, number in zip(ASKED[place], numbers):
        if not is_within(board, meaning, number):
            return False
    return True


def clear(board):
    """Empty the table."""
    board.kinds.clear()
    board.land_links.clear()
    board.sea_links.clear()
    board.units.clear()
    return [0]


def add_province(board, kind):
    """Lay one more province."""
    new = len(board.kinds)
    if new >= MOST_PROVINCES:
        return [FULL]
    board.kinds.append(kind)
    return [0, new]


def link(links, one, other):
    """Join two ends that may be joined."""
    if (one, other) in links:
        return [TAKEN]
    # Each link stands there twice, once each way.
    if len(links) >= 2 * MOST_LINKS:
        return [FULL]
    links[(one, other)] = True
    links[(other, one)] = True
    return [0]


def link_by_land(board, p, q):
    """Join two provinces by land."""
    if p == q or board.kinds[p] == SEA or board.kinds[q] == SEA:
        return [UNFIT]
    return link(board.land_links, p, q)


def link_by_sea(board, p, s, q, t):
    """Join two places by sea."""
    if p == q or board.kinds[p] == LAND or board.kinds[q] == LAND:
        return [UNFIT]
    return link(board.sea_links, (p, s), (q, t))


def can_stand(board, fleet, p, s):
    """Whether an army or a fleet may be in that place at all."""
    if fleet == 1:
        return board.kinds[p] != LAND
    return board.kinds[p] != SEA and s == 0


def set_unit(board, power, fleet, p, s):
    """Set a unit, which holds until it is ordered otherwise."""
    if not can_stand(board, fleet, p, s):
        return [UNFIT]
    if p in board.units:
        return [TAKEN]
    if len(board.units) >= MOST_UNITS:
        return [FULL]
    board.units[p] = Unit(power, fleet, s)
    return [0]


def take_away(board, p):
    """Take a unit from the board."""
    if p not in board.units:
        return [NO_UNIT]
    board.units.pop(p)
    return [0]


def give_order(board, p, order):
    """Give the unit in p its order, whatever that counts as."""
    if p not in board.units:
        return [NO_UNIT]
    board.units[p].order = order
    return [0]


def answer(board, place, numbers):
    """Do one call of the places 0 to 10: the row that it answers."""
    if not all_within(board, place, numbers):
        return [OUTSIDE]
    if place == CLEAR_CALL:
        return clear(board)
    if place == PROVINCE_CALL:
        return add_province(board, numbers[0])
    if place == LAND_CALL:
        return link_by_land(board, numbers[0], numbers[1])
    if place == SEA_CALL:
        return link_by_sea(board, numbers[0], numbers[1], numbers[2], numbers[3])
    if place == UNIT_CALL:
        return set_unit(board, numbers[0], numbers[1], numbers[2], numbers[3])
    if place == GONE_CALL:
        return take_away(board, numbers[0])
    return give_order(board, numbers[0], tuple([place] + numbers[1:]))
