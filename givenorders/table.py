"""The package's interface: the calls on one table, handed in as one list."""

from givenorders.board import Board
from givenorders.setting import answer


def answers(calls):
    """Do the calls in order on a new table; for each, how many numbers it answers, then these."""
    board = Board()
    given = []
    at = 0
    while at < len(calls):
        end = at + 2 + calls[at + 1]
        row = answer(board, calls[at], calls[at + 2:end])
        given.append(len(row))
        given.extend(row)
        # The count of lists stands behind the numbers; no call has any.
        at = end + 1
    return given
