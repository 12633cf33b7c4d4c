"""What reaches what on a board, and what an order counts as there."""

from givenorders.board import CARRY, COAST, HOLD, MOVE, SEA, SHORES, STAY


def place_of(board, p):
    """The place of the unit in p."""
    return (p, board.units[p].shore)


def joined_by_sea(board, p, q):
    """Whether a link of sea joins the place of the fleet in p with q at some shore."""
    place = place_of(board, p)
    for shore in range(SHORES):
        if (place, (q, shore)) in board.sea_links:
            return True
    return False


def reaches(board, p, q):
    """Whether the unit in p reaches q."""
    if board.units[p].fleet == 1:
        return joined_by_sea(board, p, q)
    # No link of land ends in a sea, so that needs no asking.
    return (p, q) in board.land_links


def fleet_move(board, p, q, t, water):
    """What a fleet's move counts as."""
    if water == 0 and (place_of(board, p), (q, t)) in board.sea_links:
        return (MOVE, q, False)
    return (HOLD,)


def army_move(board, p, q, water):
    """What an army's move counts as; shores mean nothing to it."""
    if water == 0 and reaches(board, p, q):
        return (MOVE, q, False)
    if p != q and board.kinds[p] == COAST and board.kinds[q] == COAST:
        return (MOVE, q, True)
    return (HOLD,)


def support_counts(board, p, order):
    """Whether a stay or an aid of the unit in p is more than a hold."""
    if order[0] == STAY:
        # Its own province is never reached, as no link joins a province with itself.
        return reaches(board, p, order[1])
    a = order[1]
    q = order[2]
    return a != q and a != p and reaches(board, p, q)


def as_it_counts(board, p):
    """The order of the unit in p as it counts.

    (HOLD,), (MOVE, goal, by water), (STAY, q), (AID, a, q) or (CARRY, a, q).
    """
    unit = board.units[p]
    order = unit.order
    if order[0] == MOVE and unit.fleet == 1:
        return fleet_move(board, p, order[1], order[2], order[3])
    if order[0] == MOVE:
        return army_move(board, p, order[1], order[3])
    if order[0] == CARRY:
        # Only a fleet can be in a sea.
        return order if board.kinds[p] == SEA and order[1] != order[2] else (HOLD,)
    if order[0] == HOLD or not support_counts(board, p, order):
        return (HOLD,)
    return order
