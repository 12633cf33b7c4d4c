"""The package's interface: the calls on one table, handed in as one list."""

from givenorders.asking import MOVES_CALL, ask
from givenorders.board import Board
from givenorders.field import field_of
from givenorders.setting import answer


def answers(calls):
    """Do the calls in order on a new table; for each, how many numbers it answers, then these."""
    board = Board()
    field = None
    given = []
    at = 0
    while at < len(calls):
        end = at + 2 + calls[at + 1]
        numbers = calls[at + 2:end]
        if calls[at] < MOVES_CALL:
            row = answer(board, calls[at], numbers)
            # What orders count as may be something else now.
            field = None
        else:
            field = field_of(board) if field is None else field
            row = ask(field, calls[at], numbers)
        given.append(len(row))
        given.extend(row)
        # The count of lists stands behind the numbers; no call has any.
        at = end + 1
    return given
