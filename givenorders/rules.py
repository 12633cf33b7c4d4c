"""What each move comes to by the rules, given a telling."""

from givenorders.field import power_of


class Case:
    """What the rules are asked about: a field, a telling, the provinces that have a way, the supports that are cut.

    The cut supports are handed in, as they may be those of another telling than the one that is asked about.
    """

    def __init__(self, field, told, ways, cut):
        self.field = field
        self.told = told
        self.ways = ways
        self.cut = cut


def has_its_way(field, ways, p):
    """Whether the move from p has its way."""
    return p not in field.by_water or p in ways


def is_cut(field, told, ways, supporter):
    """Whether the support that the unit in that province gives is cut."""
    for p in field.into.get(supporter, []):
        if power_of(field, p) == power_of(field, supporter) or not has_its_way(field, ways, p):
            continue
        # A stay is aimed at no province, so none of them is the one that it is aimed at.
        if field.aimed[supporter] != p or p in told:
            return True
    return False


def cut_supports(field, told, ways):
    """The provinces of the supports that are cut."""
    cut = {}
    for supporter in field.aimed:
        if is_cut(field, told, ways, supporter):
            cut[supporter] = True
    return cut


def head_to_head(field, p):
    """Whether the move from p is head to head with the unit in its goal."""
    q = field.goals[p]
    return field.goals.get(q) == p and p not in field.by_water and q not in field.by_water


def helpers(case, p):
    """The helpers of the move from p."""
    aids = case.field.aids.get((p, case.field.goals[p]), [])
    return [helper for helper in aids if helper not in case.cut]


def attack(case, p):
    """The attack of the move from p."""
    field = case.field
    q = field.goals[p]
    if not has_its_way(field, case.ways, p):
        return 0
    has_left = q in case.told and not head_to_head(field, p)
    if q not in field.board.units or has_left:
        return 1 + len(helpers(case, p))
    power = power_of(field, q)
    if power == power_of(field, p):
        return 0
    return 1 + len([helper for helper in helpers(case, p) if power_of(field, helper) != power])


def keeps_out(case, p):
    """What the move from p keeps others out of its goal with."""
    field = case.field
    if not has_its_way(field, case.ways, p):
        return 0
    if head_to_head(field, p) and field.goals[p] in case.told:
        return 0
    return 1 + len(helpers(case, p))


def holds(case, q):
    """What holds the province q."""
    field = case.field
    if q not in field.board.units or q in case.told:
        return 0
    if q in field.goals:
        return 1
    return 1 + len([supporter for supporter in field.stays.get(q, []) if supporter not in case.cut])


def wall(case, p):
    """The wall of the move from p."""
    q = case.field.goals[p]
    if head_to_head(case.field, p):
        return 1 + len(helpers(case, q))
    return holds(case, q)


def goes(case, p):
    """Whether by the rules the move from p goes."""
    # Without its way its attack is 0, and no wall is less.
    strength = attack(case, p)
    if strength <= wall(case, p):
        return False
    for other in case.field.into[case.field.goals[p]]:
        if other != p and strength <= keeps_out(case, other):
            return False
    return True


def all_that_go(case):
    """The provinces from which moves go by the rules."""
    return tuple([p for p in case.field.goals if goes(case, p)])


def agrees(field, told, ways):
    """Whether a telling agrees, where those provinces have a way."""
    case = Case(field, told, ways, cut_supports(field, told, ways))
    for p in field.goals:
        if goes(case, p) != (p in told):
            return False
    return True
