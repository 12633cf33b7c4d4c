"""Where units are behind a telling, and which moves by water have a way there.

A telling is a tuple of provinces, rising; so are ways.
"""

from givenorders.orders import joined_by_sea, place_of

DRIVEN_OUT = -1


def is_driven_out(field, told, p):
    """Whether the unit in p hasn't left and a move into p goes."""
    return p not in told and any([q in told for q in field.into.get(p, [])])


def where_behind(field, told, p):
    """The province in which the unit in p is behind a telling."""
    if p in told:
        return field.goals[p]
    return DRIVEN_OUT if is_driven_out(field, told, p) else p


def fleets_joined(board, one, other):
    """Whether a link of sea joins the places of two fleets."""
    return (place_of(board, one), place_of(board, other)) in board.sea_links


def has_chain(field, told, p):
    """Whether fleets that aren't driven out carry the army in p all the way to its goal."""
    board = field.board
    q = field.goals[p]
    left = [fleet for fleet in field.carries.get((p, q), []) if not is_driven_out(field, told, fleet)]
    chained = [fleet for fleet in left if joined_by_sea(board, fleet, p)]
    at = 0
    while at < len(chained):
        if joined_by_sea(board, chained[at], q):
            return True
        chained.extend([f for f in left if f not in chained and fleets_joined(board, chained[at], f)])
        at += 1
    return False


def ways_behind(field, told):
    """The ways behind a telling."""
    return tuple([p for p in field.by_water if has_chain(field, told, p)])
