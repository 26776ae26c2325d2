"""Walks over comings: the second one, and both together."""

from drawerdesk.desks import Desk, check_name, check_weight


def counted(desk, comings):
    """What each name that the desk shows weighs in these comings: the second walk."""
    weights = {name: 0 for name in desk.shown()}
    for name, weight in comings:
        # A pair is refused whether or not the desk shows its name.
        check_name(name)
        check_weight(weight)
        if name in weights:
            weights[name] += weight
    return weights


def heavy(comings, drawers):
    """The names that weigh more than one in (drawers and one) of all: both walks."""
    desk = Desk(drawers)
    for name, weight in comings:
        desk.come(name, weight)
    # The first walk shows each heavy name, and perhaps others: so the second one counts.
    weights = counted(desk, comings)
    return [name for name in weights if weights[name] * (drawers + 1) > desk.weight()]
