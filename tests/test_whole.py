"""[0.1] (d), (e), (f), and (a) to (c) again, over many made histories of the whole program."""

import itertools
import unittest

from drawerdesk.desks import Desk
from drawerdesk.lately import Lately
from drawerdesk.pours import poured, smaller
from drawerdesk.texts import read, written
from drawerdesk.walks import counted, heavy
from tests.helper import (
    GREAT, NAMES, Case, Chance, Plain, added, desk_of, let_come, state, weights_of,
)


def made_comings(chance, many):
    """So many comings, of few or of many names, light or heavy."""
    names = NAMES[:1 + chance.below(len(NAMES))]
    most = chance.among([1, 3, 12, 100])
    return [(chance.among(names), 1 + chance.below(most)) for _ in range(many)]


def reached(piece, pieces, many):
    """How many of so many comings the row still keeps, counted one by one."""
    full, rest = 0, 0
    for _ in range(many):
        rest += 1
        if rest == piece:
            full, rest = min(full + 1, pieces), 0
    return full * piece + rest


class TestLastComings(Case):
    """(d): the row of desks against the last comings, counted apart."""

    def follow(self, drawers, piece, pieces, comings):
        row = Lately(drawers, piece, pieces)
        for many in range(len(comings) + 1):
            reach = reached(piece, pieces, many)
            last = comings[many - reach:many]
            told = row.told()
            self.assertEqual(row.reach(), reach)
            self.assertEqual(told.drawers(), drawers)
            # Where one piece alone is kept, names alone have come to its desk.
            self.assert_bounds(told, weights_of(last), reach <= piece)
            self.assertLessEqual(set(heavy(last, drawers)), set(told.shown()))
            if many < len(comings):
                row.come(*comings[many])

    def test_made_rows(self):
        for seed in range(120):
            chance = Chance(2000 + seed)
            drawers, piece, pieces = (1 + chance.below(most) for most in (8, 12, 6))
            self.follow(drawers, piece, pieces, made_comings(chance, 40))

    def test_all_short_rows(self):
        for drawers, piece, pieces in itertools.product((1, 2), (1, 2), (1, 2)):
            for comings in itertools.product([("a", 1), ("b", 2), ("c", 1)], repeat=5):
                self.follow(drawers, piece, pieces, list(comings))

    def test_great_weights(self):
        for seed in range(10):
            chance = Chance(3000 + seed)
            comings = [(chance.among(NAMES), chance.among([GREAT, 1, GREAT // 3, GREAT - 1]))
                       for _ in range(30)]
            self.follow(1 + seed % 4, 1 + seed % 5, 1 + seed % 3, comings)

    def test_heavy_name_is_told_whatever_the_order(self):
        comings = [("a", 3), ("b", 1), ("c", 1), ("d", 1), ("e", 1), ("f", 1)]
        for order in itertools.permutations(comings):
            row = Lately(2, 2, 3)
            let_come(row, [("z", 50), ("y", 50)])
            let_come(row, order)
            self.assertEqual((row.reach(), row.told().weight()), (6, 8))
            self.assertIn("a", row.told().shown())


class TestWalks(Case):
    """(e): the two walks against plain counting."""

    def check(self, comings, drawers):
        weights = weights_of(comings)
        all_weights = sum(weights.values())
        expected = [name for name in weights if weights[name] * (drawers + 1) > all_weights]
        held = list(comings)
        self.assertEqual(heavy(comings, drawers), expected)
        # By hand: a first walk to a desk, and the second one by what it shows.
        desk = desk_of(drawers, comings)
        told = counted(desk, comings)
        self.assertEqual(list(told.items()),
                         [(name, weights[name]) for name in desk.shown()])
        self.assertEqual([name for name in told if told[name] * (drawers + 1) > all_weights],
                         expected)
        self.assertEqual(comings, held)

    def test_all_short_histories(self):
        for drawers in (1, 2, 3):
            for many in range(6):
                for comings in itertools.product([("a", 1), ("b", 1), ("c", 2), ("d", 3)],
                                                 repeat=many):
                    self.check(list(comings), drawers)

    def test_made_histories(self):
        for seed in range(300):
            chance = Chance(4000 + seed)
            self.check(made_comings(chance, chance.below(60)), 1 + chance.below(8))

    def test_great_weights(self):
        for seed in range(40):
            chance = Chance(5000 + seed)
            comings = [(chance.among(NAMES[:6]), chance.among([GREAT, GREAT - 1, GREAT // 2, 1]))
                       for _ in range(30)]
            self.check(comings, 1 + chance.below(5))

    def test_counted_by_a_desk_of_other_comings(self):
        for seed in range(100):
            chance = Chance(6000 + seed)
            desk = desk_of(1 + chance.below(6), made_comings(chance, 20))
            comings = made_comings(chance, 20)
            weights = weights_of(comings)
            self.assertEqual(list(counted(desk, comings).items()),
                             [(name, weights.get(name, 0)) for name in desk.shown()])


class TestWrittenBetween(Case):
    """(f): a desk that is written and read in between, beside one that is not."""

    def test_made_histories_of_all_kinds(self):
        for seed in range(80):
            chance = Chance(8000 + seed)
            drawers = 1 + chance.below(6)
            names = NAMES[:2 + chance.below(len(NAMES) - 1)]
            rows = [(Desk(drawers), Desk(drawers), Plain(drawers), {}, True) for _ in range(2)]
            for _ in range(30):
                at = chance.below(2)
                rows[at] = self.step(chance, rows[at], rows[1 - at], names)
                again, desk, plain, true, alone = rows[at]
                if chance.below(3) == 0:
                    again = self.read_back(again)
                    rows[at] = (again, desk, plain, true, alone)
                self.assertEqual(state(again), state(desk))
                self.assertEqual(state(again), plain.state())
                self.assert_bounds(again, true, alone)

    def read_back(self, desk):
        before = state(desk)
        text = written(desk)
        again = read(text)
        self.assertEqual((state(desk), state(again)), (before, before))
        self.assertEqual(written(again), text)
        return again

    def step(self, chance, row, mate, names):
        """Names that come, a pouring, or a making smaller, to both of the desks alike."""
        again, desk, plain, true, alone = row
        if sum(true.values()) > 300:
            drawers = desk.drawers()
            return Desk(drawers), Desk(drawers), Plain(drawers), {}, True
        kind = chance.below(8)
        if kind == 0 and desk.drawers() > 1:
            fewer = desk.drawers() - 1
            return (smaller(again, fewer), smaller(desk, fewer), plain.smaller(fewer), true, False)
        if kind <= 2 and desk.drawers() == mate[1].drawers():
            return (poured(again, mate[0]), poured(desk, mate[1]), plain.poured(mate[2]),
                    added(true, mate[3]), False)
        true = dict(true)
        for _ in range(1 + chance.below(4)):
            name, weight = chance.among(names), 1 + chance.below(chance.among([1, 3, 12]))
            again.come(name, weight)
            desk.come(name, weight)
            plain.come(name, weight)
            true[name] = true.get(name, 0) + weight
        return again, desk, plain, true, alone

    def test_told_desks_are_written_and_read(self):
        for seed in range(20):
            chance = Chance(9000 + seed)
            row = Lately(1 + chance.below(5), 1 + chance.below(6), 1 + chance.below(4))
            for name, weight in made_comings(chance, 30):
                row.come(name, weight)
                self.read_back(row.told())

    def test_great_weights(self):
        desk, again = Desk(3), Desk(3)
        for at in range(60):
            desk.come(NAMES[at * 5 % 7], GREAT - at)
            again.come(NAMES[at * 5 % 7], GREAT - at)
            again = self.read_back(again)
            self.assertEqual(state(again), state(desk))


if __name__ == "__main__":
    unittest.main()
