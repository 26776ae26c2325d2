"""[0.1] (a), (b), (c): the bounds over many made histories, true weights counted apart."""

import itertools
import unittest

from drawerdesk.desks import Desk
from drawerdesk.pours import poured, smaller
from tests.helper import GREAT, NAMES, Case, Chance, Plain, added, state


class TestHistories(Case):
    def test_all_short_histories(self):
        comings = [("a", 1), ("b", 1), ("c", 2), ("d", 3)]
        for drawers in (1, 2, 3):
            for many in range(6):
                for history in itertools.product(comings, repeat=many):
                    self.follow(drawers, history, 10)

    def test_long_histories_of_names_alone(self):
        chance = Chance(1)
        for drawers in (1, 2, 3, 5, 8, 11, 12, 13, 50):
            for names, most in ((NAMES, 3), (NAMES, 20), (NAMES[:4], 9)):
                history = [(chance.among(names), 1 + chance.below(most)) for _ in range(120)]
                self.follow(drawers, history, 3)

    def follow(self, drawers, history, often):
        """Let these come, and check behind each one of the last so many, and on the way."""
        desk = Desk(drawers)
        plain = Plain(drawers)
        true = {}
        for at, (name, weight) in enumerate(history):
            desk.come(name, weight)
            plain.come(name, weight)
            true[name] = true.get(name, 0) + weight
            if at % often == 0 or at + 1 == len(history):
                self.assert_bounds(desk, true, True)
                self.assertEqual(state(desk), plain.state())

    def test_heavy_name_is_shown_whatever_the_order(self):
        for drawers, others in ((1, "bc"), (2, "bcde"), (3, "bcdefg")):
            # One more than all the others' share: just heavy.
            many = len(others) // drawers + 1
            comings = ["a"] * many + list(others)
            for turn in range(len(comings)):
                for history in (comings[turn:] + comings[:turn],
                                (comings[turn:] + comings[:turn])[::-1]):
                    desk = Desk(drawers)
                    for name in history:
                        desk.come(name)
                    self.assertIn("a", desk.shown())
                    self.assertIn("a", desk.maybe())

    def test_made_histories_of_all_kinds(self):
        for seed in range(60):
            chance = Chance(seed)
            drawers = 1 + chance.below(6)
            names = NAMES[:2 + chance.below(len(NAMES) - 1)]
            rows = [(Desk(drawers), Plain(drawers), {}, True) for _ in range(3)]
            for _ in range(40):
                at = chance.below(len(rows))
                rows[at] = self.step(chance, rows, rows[at], names)
                desk, plain, true, alone = rows[at]
                self.assert_bounds(desk, true, alone)
                self.assertEqual(state(desk), plain.state())

    def step(self, chance, rows, row, names):
        """Names that come, a pouring, or a making smaller."""
        desk, plain, true, alone = row
        if sum(true.values()) > 400:
            return Desk(desk.drawers()), Plain(desk.drawers()), {}, True
        kind = chance.below(10)
        if kind == 0:
            drawers = desk.drawers() - chance.below(min(2, desk.drawers()))
            return smaller(desk, drawers), plain.smaller(drawers), true, False
        if kind <= 2:
            mates = [mate for mate in rows if mate[0].drawers() == desk.drawers()]
            other, other_plain, other_true, _ = chance.among(mates)
            return poured(desk, other), plain.poured(other_plain), added(true, other_true), False
        true = dict(true)
        for _ in range(1 + chance.below(4)):
            name = chance.among(names)
            weight = 1 + chance.below(chance.among([1, 3, 12]))
            desk.come(name, weight)
            plain.come(name, weight)
            true[name] = true.get(name, 0) + weight
        return desk, plain, true, alone

    def test_great_weights(self):
        for seed in range(20):
            chance = Chance(1000 + seed)
            drawers = 1 + chance.below(5)
            desks = [Desk(drawers), Desk(drawers)]
            true = [{}, {}]
            for _ in range(60):
                at = chance.below(2)
                name = chance.among(NAMES)
                weight = chance.among([GREAT, GREAT - 1, 1, GREAT // 3, GREAT // 7 + 1])
                desks[at].come(name, weight)
                true[at][name] = true[at].get(name, 0) + weight
                self.assert_bounds(desks[at], true[at], True)
            both = poured(desks[0], desks[1])
            self.assert_bounds(both, added(true[0], true[1]), False)
            for fewer in range(1, drawers + 1):
                self.assert_bounds(smaller(both, fewer), added(true[0], true[1]), False)


if __name__ == "__main__":
    unittest.main()
