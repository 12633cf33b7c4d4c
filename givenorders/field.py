"""A board's orders as they count, each kept where the rules look for it."""

from givenorders.board import AID, CARRY, MOVE, STAY
from givenorders.orders import as_it_counts


class Field:
    """The orders as they count on a board that doesn't change while the field is in use.

    goals: the goal of each unit that moves, by its province, rising; by_water: those of them that move by water.
    into: by province, the provinces from which there are moves into it.
    stays: by q, who has the order stay q. aids, carries: by (a, q), who has the order aid a q or carry a q.
    aimed: by the province of each unit with a support, the q of an aid, None for a stay.
    outcomes: those of the board once they have been found, else None.
    """

    def __init__(self, board):
        self.board = board
        self.goals = {}
        self.by_water = {}
        self.into = {}
        self.stays = {}
        self.aids = {}
        self.carries = {}
        self.aimed = {}
        self.outcomes = None


def put_order(field, p, order):
    """Put the order of the unit in p, as it counts, where it belongs."""
    if order[0] == MOVE:
        field.goals[p] = order[1]
        field.into.setdefault(order[1], []).append(p)
        if order[2]:
            field.by_water[p] = True
    elif order[0] == STAY:
        field.stays.setdefault(order[1], []).append(p)
        field.aimed[p] = None
    elif order[0] == AID:
        field.aids.setdefault((order[1], order[2]), []).append(p)
        field.aimed[p] = order[2]
    elif order[0] == CARRY:
        field.carries.setdefault((order[1], order[2]), []).append(p)


def field_of(board):
    """The field of a board as it is now."""
    field = Field(board)
    for p in sorted(board.units):
        put_order(field, p, as_it_counts(board, p))
    return field


def power_of(field, p):
    """The power of the unit in p."""
    return field.board.units[p].power
