"""What the tests share: wrong inputs, made histories, and a plain model of the document."""

import unittest

from drawerdesk.desks import Desk
from drawerdesk.errors import (
    DrawerError, NoDesk, NoMatch, NoName, NoPiece, NoText, NoWeight,
)

ERRORS = (NoName, NoWeight, NoDesk, NoMatch, NoPiece, NoText)
GREAT = 10 ** 60
NAMES = ["a", "b", "c", "d", "e", "f", "g", "ab", "zz", "abcdefgh", "m", "z"]


class Sour:
    """A thing that answers no question."""

    __hash__ = None

    def _refuse(self, *told):
        raise RuntimeError("asked")

    __eq__ = __ne__ = __lt__ = __le__ = __gt__ = __ge__ = _refuse
    __len__ = __iter__ = __bool__ = __index__ = __int__ = _refuse
    __str__ = __repr__ = _refuse


def odd_things():
    """Things that are neither a text nor a whole number."""
    return [
        None, True, False, 1.0, 1.5, float("nan"), float("inf"), 1j, b"", b"a", bytearray(b"a"),
        [], ["a"], [1], (), ("a",), (1,), {}, {"a": 1}, {1: 1}, set(), {"a"}, frozenset(),
        range(1), object(), Sour(), len, str, int, Desk, lambda: "a", Desk(1),
    ]


def no_names():
    return odd_things() + [
        "", "abcdefghi", "a" * 9, "a" * 1000, "A", "aB", "Ab", "abC", "a1", "1", "0", "a_", "_a",
        " ", "a b", " a", "a ", "a\n", "\na", "a\nb", "abcdefgh\n", "abcdefg\n", "a\r", "a\t",
        "a\0", "\0", "a-", "`", "{", "@", "[", "a`", "a{", "\u00e4", "a\u00e9", "\u0430", "\uff41",
        "\u00df", "\u0131", "\U0001d41a", "\ud800", "a\u0301", "a\u200b", 0, 1, 7, -1, 10 ** 70,
    ]


def no_weights():
    return odd_things() + [0, -1, -5, -GREAT, GREAT + 1, 2 * GREAT, 10 ** 61, 10 ** 70, "", "1", "a"]


def no_drawers():
    return odd_things() + [0, -1, -50, 51, 52, 100, GREAT, -GREAT, "", "1", "50", "a"]


def no_numbers_of_pieces(most):
    """What is no whole number from 1 to most."""
    return odd_things() + [0, -1, -most, most + 1, most + 2, 2 * most, GREAT, -GREAT,
                           "", "1", str(most), "a"]


def state(desk):
    """All that a desk tells, with the order of what it shows."""
    return (desk.drawers(), list(desk.shown().items()), desk.lost(), desk.weight(),
            desk.maybe(), desk.surely())


def desk_of(drawers, comings):
    """A desk to which these came: pairs, or names alone in a text."""
    desk = Desk(drawers)
    for coming in comings.split() if isinstance(comings, str) else comings:
        if isinstance(coming, str):
            desk.come(coming)
        else:
            desk.come(*coming)
    return desk


def let_come(desk, comings):
    """Let these come: pairs."""
    for name, weight in comings:
        desk.come(name, weight)


def weights_of(comings):
    """The weight of each name in these comings, counted plainly."""
    names = sorted(set(name for name, _ in comings))
    return {name: sum(weight for other, weight in comings if other == name) for name in names}


def added(one, other):
    """The true weights of both together."""
    return {name: one.get(name, 0) + other.get(name, 0) for name in {**one, **other}}


def many_names(many):
    """So many names, in their order."""
    letters = "abcdefghijklmnopqrstuvwxyz"
    return [one + other for one in letters for other in letters][:many]


class Case(unittest.TestCase):
    def assert_refused(self, error, action, *args, **more):
        """The action is refused by this error and none of the others."""
        try:
            action(*args, **more)
        except DrawerError as e:
            self.assertIsInstance(e, ValueError)
            self.assertEqual([kind for kind in ERRORS if isinstance(e, kind)], [error])
        else:
            self.fail("not refused")

    def assert_desk(self, desk, shown, lost, weight):
        self.assertIs(type(desk), Desk)
        self.assertIs(type(desk.shown()), dict)
        self.assertEqual(list(desk.shown().items()), sorted(shown.items()))
        self.assertEqual((desk.lost(), desk.weight()), (lost, weight))

    def assert_bounds(self, desk, true, alone):
        """[0.1] (a) to (c) of a desk, by the true weights; alone: only names came to it."""
        parts = desk.drawers() + 1
        weight = sum(true.values())
        shown = desk.shown()
        self.assertEqual(desk.weight(), weight)
        self.assertLessEqual(len(shown), desk.drawers())
        self.assertEqual(list(shown), sorted(shown))
        self.assertTrue(all(number > 0 for number in shown.values()))
        for name in [*true, "unheard"]:
            self.check_name(desk, name, true.get(name, 0), shown.get(name, 0))
        together = sum(shown.values()) + parts * desk.lost()
        self.assertLessEqual(together, weight)
        if alone:
            self.assertEqual(together, weight)
        heavy = [name for name in true if true[name] * parts > weight]
        self.assertLessEqual(set(heavy), set(desk.maybe()))
        self.assertLessEqual(set(desk.surely()), set(heavy))
        if len(true) <= desk.drawers():
            self.assertEqual((desk.lost(), shown), (0, true))

    def check_name(self, desk, name, true, number):
        self.assertLessEqual(number, true)
        self.assertGreaterEqual(number, true - desk.lost())
        self.assertEqual(desk.least(name), number)
        self.assertEqual(desk.most(name), number + desk.lost())


class Chance:
    """Numbers in a row that looks like chance, and is the same each time."""

    def __init__(self, seed):
        self.state = seed

    def below(self, n):
        self.state = (self.state * 6364136223846793005 + 1442695040888963407) % 2 ** 64
        return (self.state >> 33) % n

    def among(self, things):
        return things[self.below(len(things))]


class Plain:
    """The document word for word: drawers in a list, each with a name and a number."""

    def __init__(self, drawers, rows=(), lost=0, weight=0):
        self.drawers = drawers
        self.rows = [list(row) for row in rows]
        self.lost = lost
        self.weight = weight

    def come(self, name, weight):
        self.weight += weight
        for row in self.rows:
            if row[0] == name:
                row[1] += weight
                return
        if len(self.rows) < self.drawers:
            self.rows.append([name, weight])
            return
        for _ in range(min([weight] + [row[1] for row in self.rows])):
            for row in self.rows:
                row[1] -= 1
            weight -= 1
            self.lost += 1
        self.rows = [row for row in self.rows if row[1] > 0]
        if weight > 0:
            self.rows.append([name, weight])

    def poured(self, other):
        names = sorted(set(row[0] for row in self.rows + other.rows))
        rows = [[name, sum(row[1] for row in self.rows + other.rows if row[0] == name)]
                for name in names]
        return Plain(self.drawers, rows, self.lost + other.lost, self.weight + other.weight).cut()

    def smaller(self, drawers):
        return Plain(drawers, self.rows, self.lost, self.weight).cut()

    def cut(self):
        while len(self.rows) > self.drawers:
            for row in self.rows:
                row[1] -= 1
            self.lost += 1
            self.rows = [row for row in self.rows if row[1] > 0]
        return self

    def state(self):
        heavy = [(name, number) for name, number in sorted(self.rows)]
        parts = self.drawers + 1
        return (self.drawers, [tuple(row) for row in sorted(self.rows)], self.lost, self.weight,
                [name for name, number in heavy if (number + self.lost) * parts > self.weight],
                [name for name, number in heavy if number * parts > self.weight])
