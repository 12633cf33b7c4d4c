"""Calls by their names, their answers row by row, and boards to begin with."""

from givenorders.board import Board
from givenorders.setting import answer
from givenorders.table import answers

NAMES = (
    "clear", "province", "land", "sea", "unit", "gone", "hold", "move", "stay", "aid", "carry",
    "moves", "check", "outcomes", "outcome", "sure", "kinds", "ends", "join", "behind", "rings",
)

LAND, SEA, COAST = 0, 1, 2
ARMY, FLEET = 0, 1
FAR = 10 ** 18


def listed(calls):
    """The list that is handed in for calls like ("land", 0, 1)."""
    flat = []
    for name, *numbers in calls:
        flat += [NAMES.index(name), len(numbers), *numbers, 0]
    return flat


def split(given, count):
    """The rows of a list given back, which must hold just so many."""
    rows = []
    at = 0
    while at < len(given):
        size = given[at]
        row = given[at + 1:at + 1 + size]
        if size < 1 or len(row) != size:
            raise AssertionError(f"a row is cut short: {given!r}")
        rows.append(row)
        at += 1 + size
    if len(rows) != count:
        raise AssertionError(f"{len(rows)} rows for {count} calls: {given!r}")
    return rows


def rows(*calls):
    """What each of the calls answers, on one table."""
    if len(calls) > 400:
        raise AssertionError("a line has at most 400 calls")
    return split(answers(listed(calls)), len(calls))


def last(*calls):
    """What the last of the calls answers."""
    return rows(*calls)[-1]


def provinces(*kinds):
    return [("province", kind) for kind in kinds]


def lands(count, *pairs):
    """So many provinces of land, and the links between them."""
    return [*provinces(*[LAND] * count), *[("land", p, q) for p, q in pairs]]


def armies(*powers):
    """An army in each province from 0 on, of these powers; none where it is None."""
    return [("unit", power, ARMY, p, 0) for p, power in enumerate(powers) if power is not None]


def moves(*pairs):
    return [("move", p, q, 0, 0) for p, q in pairs]


def going(row):
    """The moves that go and the ways, of a row that outcome answers."""
    count = row[1]
    told, ways = row[2:2 + count], row[3 + count:]
    if row[0] != 0 or len(told) != count or row[2 + count] != len(ways):
        raise AssertionError(f"no row of outcome: {row!r}")
    return told, ways


def found(*calls):
    """All outcomes behind the calls: for each the moves that go and the ways."""
    count = last(*calls, ("outcomes",))[1]
    given = rows(*calls, *[("outcome", i) for i in range(count)])
    return [going(row) for row in given[len(calls):]]


def that_go(*calls):
    """The moves that go in the one outcome that there must be."""
    outcomes = found(*calls)
    if len(outcomes) != 1:
        raise AssertionError(f"not one outcome: {outcomes!r}")
    return outcomes[0][0]


def kept(board):
    """All that a board holds, as one value that later calls don't change."""
    units = [(p, u.power, u.fleet, u.shore, u.order) for p, u in board.units.items()]
    return list(board.kinds), list(board.land_links), list(board.sea_links), units


def laid(*calls):
    """A board behind calls that are all done."""
    board = Board()
    for name, *numbers in calls:
        row = answer(board, NAMES.index(name), numbers)
        if row[0] != 0:
            raise AssertionError(f"{name} {numbers!r} answers {row!r}")
    return board


def behind(board, *call):
    """What a call answers on a board, and what that holds behind it."""
    name, *numbers = call
    row = answer(board, NAMES.index(name), list(numbers))
    return row, kept(board)
