"""[2.1], [2.2] and [0.2] of desks made of others."""

import unittest

from drawerdesk import pours
from drawerdesk.desks import Desk
from drawerdesk.errors import NoDesk, NoMatch
from drawerdesk.pours import poured, smaller
from tests.helper import GREAT, Case, desk_of, many_names, no_drawers, state


class TestInterface(unittest.TestCase):
    def test_functions_stand_in_their_file(self):
        for name in ("poured", "smaller"):
            self.assertEqual(getattr(pours, name).__module__, "drawerdesk.pours")

    def test_arguments_by_their_names(self):
        one = desk_of(2, "a")
        other = desk_of(2, "b b")
        self.assertEqual(poured(one=one, other=other).shown(), {"a": 1, "b": 2})
        self.assertEqual(smaller(desk=one, drawers=1).shown(), {"a": 1})


class TestPoured(Case):
    def test_names_in_common_and_without(self):
        new = poured(desk_of(3, [("c", 4), ("a", 2)]), desk_of(3, [("a", 5), ("b", 1)]))
        self.assert_desk(new, {"a": 7, "b": 1, "c": 4}, 0, 12)
        self.assertEqual(new.drawers(), 3)

    def test_no_names_in_common_and_drawers_left(self):
        new = poured(desk_of(3, [("b", 4)]), desk_of(3, [("a", 5)]))
        self.assert_desk(new, {"a": 5, "b": 4}, 0, 9)
        new.come("c", 2)
        self.assert_desk(new, {"a": 5, "b": 4, "c": 2}, 0, 11)

    def test_same_names(self):
        new = poured(desk_of(2, [("a", 4), ("b", 1)]), desk_of(2, [("b", 5), ("a", 2)]))
        self.assert_desk(new, {"a": 6, "b": 6}, 0, 12)

    def test_losses_and_weights_add_up(self):
        one = desk_of(2, [("a", 5), ("b", 4), ("c", 3)])
        other = desk_of(2, [("a", 6), ("c", 2), ("d", 1)])
        self.assert_desk(one, {"a": 2, "b": 1}, 3, 12)
        self.assert_desk(other, {"a": 5, "c": 1}, 1, 9)
        new = poured(one, other)
        self.assert_desk(new, {"a": 6}, 5, 21)
        self.assertEqual((new.least("b"), new.most("b"), new.most("a")), (0, 5, 11))

    def test_losses_add_up_where_all_names_fit(self):
        one = desk_of(2, [("a", 5), ("b", 4), ("c", 4)])
        other = desk_of(2, [("d", 6), ("c", 2), ("a", 2)])
        self.assert_desk(poured(one, other), {"a": 1, "d": 4}, 6, 23)

    def test_just_as_many_names_as_drawers(self):
        new = poured(desk_of(3, [("a", 1), ("b", 2)]), desk_of(3, [("b", 3), ("c", 1)]))
        self.assert_desk(new, {"a": 1, "b": 5, "c": 1}, 0, 7)
        new.come("d")
        self.assert_desk(new, {"b": 4}, 1, 8)

    def test_one_name_too_many(self):
        new = poured(desk_of(3, [("a", 5), ("b", 2), ("c", 7)]), desk_of(3, [("b", 1), ("d", 4)]))
        self.assert_desk(new, {"a": 2, "c": 4, "d": 1}, 3, 19)

    def test_twice_as_many_names_as_drawers(self):
        new = poured(desk_of(3, [("a", 9), ("b", 2), ("c", 7)]),
                     desk_of(3, [("d", 8), ("e", 5), ("f", 1)]))
        self.assert_desk(new, {"a": 4, "c": 2, "d": 3}, 5, 32)

    def test_equal_sums_where_the_falling_order_is_cut(self):
        new = poured(desk_of(2, [("a", 5), ("b", 3)]), desk_of(2, [("c", 3), ("d", 1)]))
        self.assert_desk(new, {"a": 2}, 3, 12)
        new.come("b", 2)
        self.assert_desk(new, {"a": 2, "b": 2}, 3, 14)

    def test_equal_sums_ahead_of_the_cut(self):
        new = poured(desk_of(2, [("a", 5), ("b", 5)]), desk_of(2, [("c", 3), ("d", 3)]))
        self.assert_desk(new, {"a": 2, "b": 2}, 3, 16)

    def test_all_sums_equal(self):
        new = poured(desk_of(2, [("a", 3), ("b", 3)]), desk_of(2, [("c", 3), ("d", 3)]))
        self.assert_desk(new, {}, 3, 12)

    def test_sums_are_cut_not_what_each_desk_shows(self):
        new = poured(desk_of(2, [("a", 3), ("b", 4)]), desk_of(2, [("a", 3), ("c", 5)]))
        self.assert_desk(new, {"a": 2, "c": 1}, 4, 15)

    def test_one_drawer(self):
        self.assert_desk(poured(desk_of(1, [("a", 3)]), desk_of(1, [("b", 5)])), {"b": 2}, 3, 8)
        self.assert_desk(poured(desk_of(1, [("a", 3)]), desk_of(1, [("b", 3)])), {}, 3, 6)

    def test_fifty_drawers(self):
        names = many_names(100)
        one = desk_of(50, [(name, at + 1) for at, name in enumerate(names[:50])])
        other = desk_of(50, [(name, at + 51) for at, name in enumerate(names[50:])])
        expected = {name: at + 1 for at, name in enumerate(names[50:])}
        self.assert_desk(poured(one, other), expected, 50, 5050)
        self.assert_desk(poured(other, one), expected, 50, 5050)

    def test_with_itself(self):
        desk = desk_of(2, [("b", 5), ("a", 4), ("c", 3)])
        before = state(desk)
        new = poured(desk, desk)
        self.assertIsNot(new, desk)
        self.assert_desk(new, {"a": 2, "b": 4}, 6, 24)
        self.assertEqual(state(desk), before)
        new.come("b", 5)
        self.assertEqual(state(desk), before)
        desk.come("d", 1)
        self.assert_desk(new, {"a": 2, "b": 9}, 6, 29)

    def test_empty_desks(self):
        new = poured(Desk(2), Desk(2))
        self.assertEqual(state(new), (2, [], 0, 0, [], []))
        full = desk_of(2, [("b", 5), ("a", 4), ("c", 3)])
        for new in (poured(full, Desk(2)), poured(Desk(2), full)):
            self.assertIsNot(new, full)
            self.assertEqual(state(new), state(full))

    def test_empty_desk_that_has_lost(self):
        lost = desk_of(1, "a b")
        self.assert_desk(poured(lost, desk_of(1, "c")), {"c": 1}, 1, 3)
        self.assert_desk(poured(lost, lost), {}, 2, 4)

    def test_order_of_the_two_does_not_matter(self):
        one = desk_of(3, [("c", 9), ("a", 2), ("e", 4), ("f", 1)])
        other = desk_of(3, [("d", 6), ("b", 3), ("a", 1)])
        self.assertEqual(state(poured(one, other)), state(poured(other, one)))

    def test_heavy_names_by_all_weight(self):
        new = poured(desk_of(2, [("a", 5), ("b", 4)]), desk_of(2, [("c", 3)]))
        self.assert_desk(new, {"a": 2, "b": 1}, 3, 12)
        self.assertEqual((new.maybe(), new.surely()), (["a"], []))
        new = poured(desk_of(2, [("a", 6)]), desk_of(2, [("b", 4), ("c", 1)]))
        self.assert_desk(new, {"a": 5, "b": 3}, 1, 11)
        self.assertEqual((new.maybe(), new.surely()), (["a", "b"], ["a"]))

    def test_great_weights(self):
        one = desk_of(1, [("a", GREAT), ("a", GREAT)])
        other = desk_of(1, [("b", GREAT), ("b", GREAT - 1)])
        self.assert_desk(poured(one, other), {"a": 1}, 2 * GREAT - 1, 4 * GREAT - 1)

    def test_unlike_numbers_of_drawers_refused(self):
        for one, other in ((Desk(1), Desk(2)), (Desk(50), Desk(49)),
                           (desk_of(3, "a b c d"), desk_of(2, "a"))):
            before = (state(one), state(other))
            self.assert_refused(NoMatch, poured, one, other)
            self.assert_refused(NoMatch, poured, other, one)
            self.assertEqual((state(one), state(other)), before)

    def test_old_desks_stay_and_new_one_stays(self):
        for one, other in (
                (desk_of(2, [("b", 5), ("a", 4), ("c", 3)]), desk_of(2, [("d", 5), ("a", 1)])),
                (desk_of(3, [("b", 5)]), desk_of(3, [("a", 5), ("b", 1)])),
                (desk_of(3, [("b", 5)]), Desk(3)),
                (Desk(3), desk_of(3, [("b", 5), ("a", 2)])),
                (Desk(2), Desk(2))):
            before = (state(one), state(other))
            new = poured(one, other)
            self.assertEqual((state(one), state(other)), before)
            for coming in (("b", 9), ("d", 3), ("e", 20), ("f", 1), ("a", 2)):
                new.come(*coming)
            self.assertEqual((state(one), state(other)), before)
            told = state(new)
            for coming in (("b", 2), ("e", 8), ("f", 1), ("g", 1)):
                one.come(*coming)
                other.come(*coming)
            self.assertEqual(state(new), told)

    def test_goes_on_as_a_desk(self):
        new = poured(desk_of(2, [("a", 5)]), desk_of(2, [("b", 3)]))
        new.come("a", 1)
        new.come("c", 4)
        self.assert_desk(new, {"a": 3, "c": 1}, 3, 13)
        again = poured(new, desk_of(2, [("b", 2), ("c", 1)]))
        self.assert_desk(again, {"a": 1}, 5, 16)


class TestSmaller(Case):
    def test_as_many_drawers_as_there_are(self):
        for desk in (Desk(1), Desk(50), desk_of(2, "a"),
                     desk_of(2, [("b", 5), ("a", 4), ("c", 3)])):
            new = smaller(desk, desk.drawers())
            self.assertIsNot(new, desk)
            self.assertIs(type(new), Desk)
            self.assertEqual(state(new), state(desk))

    def test_fewer_drawers_and_all_names_fit(self):
        new = smaller(desk_of(5, [("c", 2), ("a", 7)]), 3)
        self.assert_desk(new, {"a": 7, "c": 2}, 0, 9)
        self.assertEqual(new.drawers(), 3)
        new.come("b", 1)
        self.assert_desk(new, {"a": 7, "b": 1, "c": 2}, 0, 10)
        new.come("d", 1)
        self.assert_desk(new, {"a": 6, "c": 1}, 1, 11)

    def test_just_as_many_names_as_drawers(self):
        new = smaller(desk_of(5, [("c", 2), ("a", 7)]), 2)
        self.assert_desk(new, {"a": 7, "c": 2}, 0, 9)
        new.come("b", 1)
        self.assert_desk(new, {"a": 6, "c": 1}, 1, 10)

    def test_one_name_too_many(self):
        new = smaller(desk_of(3, [("c", 2), ("a", 7), ("b", 4)]), 2)
        self.assert_desk(new, {"a": 5, "b": 2}, 2, 13)
        self.assertEqual(new.drawers(), 2)

    def test_several_names_too_many_and_some_lost(self):
        desk = desk_of(5, [("e", 9), ("a", 2), ("b", 8), ("c", 4), ("d", 6), ("f", 1)])
        self.assert_desk(desk, {"a": 1, "b": 7, "c": 3, "d": 5, "e": 8}, 1, 30)
        self.assert_desk(smaller(desk, 4), {"b": 6, "c": 2, "d": 4, "e": 7}, 2, 30)
        self.assert_desk(smaller(desk, 3), {"b": 4, "d": 2, "e": 5}, 4, 30)
        self.assert_desk(smaller(desk, 2), {"b": 2, "e": 3}, 6, 30)
        self.assert_desk(smaller(desk, 1), {"e": 1}, 8, 30)

    def test_equal_numbers_at_the_cut(self):
        desk = desk_of(4, [("a", 3), ("b", 5), ("c", 3), ("d", 3)])
        self.assert_desk(smaller(desk, 3), {"b": 2}, 3, 14)
        self.assert_desk(smaller(desk, 2), {"b": 2}, 3, 14)
        self.assert_desk(smaller(desk_of(3, "a b c"), 2), {}, 1, 3)

    def test_one_drawer(self):
        self.assert_desk(smaller(desk_of(2, [("a", 3), ("b", 8)]), 1), {"b": 5}, 3, 11)
        self.assert_desk(smaller(desk_of(2, [("a", 3)]), 1), {"a": 3}, 0, 3)
        self.assert_desk(smaller(Desk(2), 1), {}, 0, 0)

    def test_fifty_drawers(self):
        names = many_names(50)
        desk = desk_of(50, [(name, at + 1) for at, name in enumerate(names)])
        expected = {name: at for at, name in enumerate(names) if at > 0}
        self.assert_desk(smaller(desk, 49), expected, 1, 1275)
        self.assert_desk(smaller(desk, 1), {names[49]: 1}, 49, 1275)

    def test_heavy_names_by_the_new_number_of_drawers(self):
        desk = desk_of(3, [("a", 5), ("b", 5)])
        self.assertEqual(desk.surely(), ["a", "b"])
        new = smaller(desk, 2)
        self.assertEqual((new.maybe(), new.surely()), (["a", "b"], ["a", "b"]))
        new = smaller(desk_of(3, [("a", 6), ("b", 5)]), 1)
        self.assert_desk(new, {"a": 1}, 5, 11)
        self.assertEqual((new.maybe(), new.surely()), (["a"], []))

    def test_no_number_of_drawers_refused(self):
        for desk in (Desk(1), Desk(50), desk_of(2, [("b", 5), ("a", 4), ("c", 3)])):
            before = state(desk)
            for drawers in no_drawers():
                self.assert_refused(NoDesk, smaller, desk, drawers)
            self.assertEqual(state(desk), before)

    def test_more_drawers_than_there_are_refused(self):
        desk = desk_of(2, [("b", 5), ("a", 4), ("c", 3)])
        before = state(desk)
        for drawers in (3, 4, 50):
            self.assert_refused(NoMatch, smaller, desk, drawers)
        self.assertEqual(state(desk), before)
        self.assert_refused(NoMatch, smaller, Desk(49), 50)
        self.assert_refused(NoMatch, smaller, Desk(1), 2)

    def test_old_desk_stays_and_new_one_stays(self):
        for drawers in (3, 2, 1):
            desk = desk_of(3, [("b", 5), ("a", 4), ("c", 3), ("d", 1)])
            before = state(desk)
            new = smaller(desk, drawers)
            self.assertEqual(state(desk), before)
            for coming in (("a", 9), ("d", 4), ("e", 20), ("b", 1)):
                new.come(*coming)
            self.assertEqual(state(desk), before)
            told = state(new)
            for coming in (("a", 2), ("e", 7), ("f", 1)):
                desk.come(*coming)
            self.assertEqual(state(new), told)

    def test_old_desk_without_names_stays(self):
        desk = Desk(3)
        new = smaller(desk, 3)
        new.come("a")
        self.assert_desk(desk, {}, 0, 0)


if __name__ == "__main__":
    unittest.main()
