"""The outcomes of a field."""

from givenorders.rules import agrees
from givenorders.ways import ways_behind


class Outcome:
    """A telling that is an outcome, and the ways behind it."""

    def __init__(self, told, ways):
        self.told = told
        self.ways = ways


def is_outcome(field, told):
    """Whether a telling is an outcome."""
    return agrees(field, told, ways_behind(field, told))


def all_tellings(field):
    """Every telling, in the rising order of their numbers."""
    tellings = [()]
    for p in field.goals:
        # The number of p is more than all before it together, so what has p comes behind what hasn't.
        tellings = tellings + [told + (p,) for told in tellings]
    return tellings


def outcomes_of(field):
    """All outcomes in their order; they are looked for once a field."""
    if field.outcomes is None:
        field.outcomes = [
            Outcome(told, ways_behind(field, told)) for told in all_tellings(field) if is_outcome(field, told)
        ]
    return field.outcomes


def kinds_of_ways(outcomes):
    """The unlike sets of ways, in the order of the first outcome that has them."""
    kinds = []
    for outcome in outcomes:
        if outcome.ways not in kinds:
            kinds.append(outcome.ways)
    return kinds


def has_all(told, others):
    """Whether a telling has all provinces of another."""
    return all([p in told for p in others])


def least_place(outcomes):
    """The place of the first outcome whose provinces all others have; -1 if there's none."""
    for place, outcome in enumerate(outcomes):
        if all([has_all(other.told, outcome.told) for other in outcomes]):
            return place
    return -1


def greatest_place(outcomes):
    """The place of the first outcome that has all provinces of all others; -1 if there's none."""
    for place, outcome in enumerate(outcomes):
        if all([has_all(outcome.told, other.told) for other in outcomes]):
            return place
    return -1
