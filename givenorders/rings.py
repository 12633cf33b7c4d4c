"""Rings of moves that may all go or all stay, by some ways."""

from givenorders.rules import Case, all_that_go, cut_supports


def settled(field, ways):
    """Those moves that go into provinces whose units stand."""
    going = all_that_go(Case(field, (), ways, cut_supports(field, (), ways)))
    units = field.board.units
    return tuple([p for p in going if field.goals[p] in units and field.goals[p] not in field.goals])


def worked_out(field, ways, cut, told):
    """What is told when, again and again, just what goes by the rules is told, until nothing changes.

    With ways and cut supports that stay as they are, more that is told never makes less go: so from all
    moves what is told only shrinks, from nothing it only grows, and either comes to an end.
    """
    going = all_that_go(Case(field, told, ways, cut))
    while going != told:
        told = going
        going = all_that_go(Case(field, told, ways, cut))
    return told


def undecided(field, ways):
    """The provinces of open moves: those among the most but not among the least."""
    cut = cut_supports(field, settled(field, ways), ways)
    most = worked_out(field, ways, cut, tuple(field.goals))
    least = worked_out(field, ways, cut, ())
    return [p for p in most if p not in least]


def ring_from(field, among, p):
    """The ring from p on through the provinces told, or an empty one if there's none."""
    ring = []
    at = p
    while at in among and at not in ring:
        ring.append(at)
        at = field.goals[at]
    return ring if at == p else []


def count_rings(field, ways):
    """How many rings there are by some ways."""
    among = undecided(field, ways)
    # Each ring is counted at its least province, so once.
    return len([p for p in among if min(ring_from(field, among, p), default=-1) == p])
