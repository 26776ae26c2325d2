"""New desks made of old ones: two poured together, or one made smaller."""

from drawerdesk.desks import check_drawers, desk_with, lowered
from drawerdesk.errors import NoMatch


def poured(one, other):
    """A new desk that stands for what came to both."""
    if one.drawers() != other.drawers():
        raise NoMatch("two desks are poured only with as many drawers each")
    sums = one.shown()
    added = other.shown()
    for name in added:
        sums[name] = sums.get(name, 0) + added[name]
    return cut(one.drawers(), sums, one.lost() + other.lost(), one.weight() + other.weight())


def smaller(desk, drawers):
    """A new desk that stands for what came to the old one, with no more drawers than it has."""
    check_drawers(drawers)
    if drawers > desk.drawers():
        raise NoMatch("a desk is made smaller only to as many drawers as it has, or fewer")
    return cut(drawers, desk.shown(), desk.lost(), desk.weight())


def cut(drawers, shown, lost, weight):
    """A new desk of this, lowered so far that the names fit in the drawers."""
    if len(shown) <= drawers:
        return desk_with(drawers, shown, lost, weight)
    # The first name too many in falling order comes to 0, and so do all behind it.
    less = sorted(shown.values(), reverse=True)[drawers]
    return desk_with(drawers, lowered(shown, less), lost + less, weight)
