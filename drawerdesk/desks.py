"""Desks: few drawers, each that is taken with a name and a number."""

from drawerdesk.errors import NoDesk, NoName, NoWeight

LETTERS = "abcdefghijklmnopqrstuvwxyz"


def is_name(thing):
    """Is this a text of 1 to 8 letters a to z?"""
    if type(thing) is not str or not 1 <= len(thing) <= 8:
        return False
    for letter in thing:
        if letter not in LETTERS:
            return False
    return True


def is_number(thing, most):
    """Is this a whole number from 1 to most?"""
    # Not isinstance: a truth would pass there as a whole number.
    return type(thing) is int and 1 <= thing <= most


def check_name(name):
    """Refuse what is no name."""
    if not is_name(name):
        raise NoName("a name is a text of 1 to 8 letters a to z")


def check_weight(weight):
    """Refuse what is no weight."""
    if not is_number(weight, 10 ** 60):
        raise NoWeight("a weight is a whole number from 1 to 10 ** 60")


def check_drawers(drawers):
    """Refuse what is no number of drawers."""
    if not is_number(drawers, 50):
        raise NoDesk("drawers are from 1 to 50")


def lowered(shown, less):
    """The same names, each with so much less; without those that come to 0 or below."""
    return {name: shown[name] - less for name in shown if shown[name] > less}


class Desk:
    """A desk with a fixed number of drawers, to which names come."""

    def __init__(self, drawers):
        check_drawers(drawers)
        self._drawers = drawers
        self._shown = {}
        self._lost = 0
        self._weight = 0

    def come(self, name, weight=1):
        """Let a name come once, with its weight."""
        check_name(name)
        check_weight(weight)
        self._weight += weight
        if name in self._shown:
            self._shown[name] += weight
        elif len(self._shown) < self._drawers:
            self._shown[name] = weight
        else:
            self._come_to_full(name, weight)

    def _come_to_full(self, name, weight):
        """Set the weight of a new name against all the drawers, as all are taken."""
        less = min(weight, min(self._shown.values()))
        self._shown = lowered(self._shown, less)
        self._lost += less
        # Only where the least drawer was emptied is anything left, so a drawer is free for it.
        if weight > less:
            self._shown[name] = weight - less

    def shown(self):
        """What each name with a drawer shows, in the order of the names."""
        return {name: self._shown[name] for name in sorted(self._shown)}

    def lost(self):
        """How much of a name's weight the desk may not show."""
        return self._lost

    def weight(self):
        """The weight of all that came."""
        return self._weight

    def drawers(self):
        """How many drawers there are, taken or free."""
        return self._drawers

    def least(self, name):
        """The weight that the name has at least."""
        check_name(name)
        return self._shown.get(name, 0)

    def most(self, name):
        """The weight that the name has at most."""
        return self.least(name) + self._lost

    def maybe(self):
        """The names that may weigh more than one in (drawers and one) of all."""
        return [name for name in sorted(self._shown) if self._is_heavy(self.most(name))]

    def surely(self):
        """The names that surely weigh more than one in (drawers and one) of all."""
        return [name for name in sorted(self._shown) if self._is_heavy(self.least(name))]

    def _is_heavy(self, number):
        """Is this more than one in (drawers and one) of all weight?"""
        return number * (self._drawers + 1) > self._weight


def desk_with(drawers, shown, lost, weight):
    """A new desk that shows, has lost and weighs just this."""
    desk = Desk(drawers)
    desk._shown = dict(shown)
    desk._lost = lost
    desk._weight = weight
    return desk
