"""The calls that ask what orders come to: the places 11 to 20."""

from givenorders.outcomes import greatest_place, is_outcome, kinds_of_ways, least_place, outcomes_of
from givenorders.rings import count_rings
from givenorders.setting import OUTSIDE
from givenorders.ways import where_behind

MOVES_CALL = 11
CHECK_CALL = 12
OUTCOMES_CALL = 13
OUTCOME_CALL = 14
SURE_CALL = 15
KINDS_CALL = 16
ENDS_CALL = 17
JOIN_CALL = 18
BEHIND_CALL = 19

TOO_MANY = -6
NOT_THERE = -7

MOST_CHECKED = 24
MOST_MOVES = 8


def counted(provinces):
    """How many provinces there are, then they."""
    return [len(provinces)] + list(provinces)


def yes_or_no(truth):
    """1 for what is so, else 0."""
    return 1 if truth else 0


def check(field, provinces):
    """Whether the telling of these provinces is an outcome."""
    count = len(field.board.kinds)
    if len(provinces) > MOST_CHECKED or not all([0 <= p < count for p in provinces]):
        return [OUTSIDE]
    if not all([p in field.goals for p in provinces]):
        return [NOT_THERE]
    return [0, yes_or_no(is_outcome(field, tuple(sorted(set(provinces)))))]


def sure(field):
    """The moves that go in every outcome, and those that go in none."""
    tellings = [outcome.told for outcome in outcomes_of(field)]
    always = [p for p in field.goals if all([p in told for told in tellings])]
    never = [p for p in field.goals if not any([p in told for told in tellings])]
    return [0] + counted(always) + counted(never)


def kinds(field):
    """The unlike sets of ways that the outcomes have."""
    found = kinds_of_ways(outcomes_of(field))
    row = [0, len(found)]
    for ways in found:
        row.extend(counted(ways))
    return row


def ends(field):
    """The places of the least and of the greatest outcome."""
    found = outcomes_of(field)
    return [0, least_place(found), greatest_place(found)]


def join(field, one, other):
    """Whether what is in either of two outcomes is an outcome, and whether what is in both is."""
    either = tuple(sorted(set(one.told) | set(other.told)))
    both = tuple(sorted(set(one.told) & set(other.told)))
    return [0, yes_or_no(is_outcome(field, either)), yes_or_no(is_outcome(field, both))]


def behind(field, outcome):
    """Each unit's province, and where it is behind an outcome."""
    units = field.board.units
    row = [0, len(units)]
    for p in units:
        row.extend([p, where_behind(field, outcome.told, p)])
    return row


def rings(field):
    """For each outcome how many rings there are by its ways."""
    return [0] + counted([count_rings(field, outcome.ways) for outcome in outcomes_of(field)])


def ask_at_places(field, call, places):
    """Do one call of the places 14, 18 and 19, which tells outcomes by their places."""
    found = outcomes_of(field)
    if not all([0 <= place < len(found) for place in places]):
        return [NOT_THERE]
    first = found[places[0]]
    if call == OUTCOME_CALL:
        return [0] + counted(first.told) + counted(first.ways)
    if call == JOIN_CALL:
        return join(field, first, found[places[1]])
    return behind(field, first)


def ask_outcomes(field, call, numbers):
    """Do one call of the places 13 to 20."""
    if len(field.goals) > MOST_MOVES:
        return [TOO_MANY]
    if call in (OUTCOME_CALL, JOIN_CALL, BEHIND_CALL):
        return ask_at_places(field, call, numbers)
    if call == OUTCOMES_CALL:
        return [0, len(outcomes_of(field))]
    if call == SURE_CALL:
        return sure(field)
    if call == KINDS_CALL:
        return kinds(field)
    if call == ENDS_CALL:
        return ends(field)
    return rings(field)


def ask(field, call, numbers):
    """Do one call of the places 11 to 20: the row that it answers."""
    if call == MOVES_CALL:
        return [0] + counted(field.goals)
    if call == CHECK_CALL:
        return check(field, numbers)
    return ask_outcomes(field, call, numbers)
