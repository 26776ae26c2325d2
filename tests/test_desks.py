"""[1.1], [1.2], [1.3] and [0.2] of one desk."""

import unittest

from drawerdesk.desks import Desk
from drawerdesk.errors import NoDesk, NoName, NoWeight
from tests.helper import (
    GREAT, Case, Sour, desk_of, many_names, no_drawers, no_names, no_weights, state,
)


def sample_desks():
    """Desks with no drawer, some drawers and all drawers taken, with and without a loss."""
    return [
        Desk(1),
        Desk(3),
        desk_of(3, [("a", 2), ("b", 5)]),
        desk_of(2, [("b", 2), ("a", 5)]),
        desk_of(2, [("b", 2), ("a", 5), ("c", 3)]),
        desk_of(1, [("abcdefgh", GREAT), ("z", 7)]),
    ]


class TestInterface(unittest.TestCase):
    def test_class_stands_in_its_file(self):
        self.assertEqual(Desk.__module__, "drawerdesk.desks")

    def test_methods_stand_in_the_class_itself(self):
        for name in ("come", "shown", "lost", "weight", "drawers", "least", "most", "maybe",
                     "surely"):
            self.assertTrue(callable(vars(Desk)[name]), name)

    def test_arguments_by_their_names(self):
        desk = Desk(drawers=2)
        desk.come(name="a", weight=3)
        desk.come("a", weight=2)
        desk.come(weight=1, name="b")
        self.assertEqual(desk.shown(), {"a": 5, "b": 1})
        self.assertEqual(desk.least(name="a"), 5)
        self.assertEqual(desk.most(name="a"), 5)

    def test_kinds(self):
        for desk in sample_desks():
            self.assertIs(type(desk.shown()), dict)
            for number in (desk.lost(), desk.weight(), desk.drawers(), desk.least("b"),
                           desk.most("b"), *desk.shown().values()):
                self.assertIs(type(number), int)
            for told in (desk.maybe(), desk.surely()):
                self.assertIs(type(told), list)
            for name in (*desk.shown(), *desk.maybe(), *desk.surely()):
                self.assertIs(type(name), str)

    def test_come_returns_nothing(self):
        desk = Desk(1)
        for name in ("a", "a", "b", "c"):
            self.assertIsNone(desk.come(name))


class TestNames(Case):
    def test_names_that_are_taken(self):
        desk = Desk(50)
        names = ["abcdefgh", "ijklmnop", "qrstuvwx", "yz", "a", "z", "m", "zzzzzzzz", "aaaaaaaa",
                 "abcdefg"]
        for name in names:
            desk.come(name)
            self.assertEqual(desk.least(name), 1)
            self.assertEqual(desk.most(name), 1)
        self.assert_desk(desk, {name: 1 for name in names}, 0, len(names))

    def test_every_letter_and_every_length_is_taken(self):
        letters = "abcdefghijklmnopqrstuvwxyz"
        names = list(letters) + ["q" * n for n in range(2, 9)]
        desk = desk_of(50, [(name, 1) for name in names])
        self.assert_desk(desk, {name: 1 for name in names}, 0, len(names))

    def test_no_name_refused(self):
        for desk in sample_desks():
            before = state(desk)
            for name in no_names():
                self.assert_refused(NoName, desk.come, name)
                self.assert_refused(NoName, desk.come, name, 3)
                self.assert_refused(NoName, desk.least, name)
                self.assert_refused(NoName, desk.most, name)
            self.assertEqual(state(desk), before)

    def test_what_is_handed_in_is_not_changed(self):
        for thing, same in ((["a"], ["a"]), ({"a": 1}, {"a": 1}), ({"a"}, {"a"})):
            self.assert_refused(NoName, Desk(1).come, thing)
            self.assert_refused(NoWeight, Desk(1).come, "a", thing)
            self.assert_refused(NoDesk, Desk, thing)
            self.assertEqual(thing, same)

    def test_every_other_sign_is_refused(self):
        desk = Desk(2)
        for code in list(range(0x250)) + [0x3b1, 0x430, 0x2028, 0xff41, 0xff5a, 0x10ffff]:
            sign = chr(code)
            if not "a" <= sign <= "z":
                for name in (sign, "a" + sign, sign + "a", "a" + sign + "z"):
                    self.assert_refused(NoName, desk.come, name)
        self.assert_desk(desk, {}, 0, 0)


class TestWeights(Case):
    def test_bounds_are_taken(self):
        desk = Desk(2)
        desk.come("a", 1)
        desk.come("b", GREAT)
        self.assert_desk(desk, {"a": 1, "b": GREAT}, 0, GREAT + 1)

    def test_no_weight_refused(self):
        for desk in sample_desks():
            before = state(desk)
            for weight in no_weights():
                for name in ("a", "b", "abcdefgh", "new"):
                    self.assert_refused(NoWeight, desk.come, name, weight)
            self.assertEqual(state(desk), before)

    def test_name_is_refused_ahead_of_weight(self):
        desk = desk_of(1, "a")
        before = state(desk)
        for name in ("", "A", "abcdefghi", "a\n", None, 1, True, [], b"a", {}, Sour()):
            for weight in no_weights():
                self.assert_refused(NoName, desk.come, name, weight)
        self.assertEqual(state(desk), before)

    def test_desk_goes_on_behind_refusals(self):
        desk = desk_of(2, [("a", 3), ("b", 2)])
        self.assert_refused(NoName, desk.come, "c ", 2)
        self.assert_refused(NoWeight, desk.come, "c", 0)
        desk.come("c", 1)
        self.assert_desk(desk, {"a": 2, "b": 1}, 1, 6)


class TestDrawers(Case):
    def test_every_number_of_drawers_is_taken(self):
        for drawers in range(1, 51):
            desk = Desk(drawers)
            self.assertEqual(desk.drawers(), drawers)
            self.assert_desk(desk, {}, 0, 0)

    def test_no_number_of_drawers_refused(self):
        for drawers in no_drawers():
            self.assert_refused(NoDesk, Desk, drawers)


class TestCome(Case):
    def test_new_desk(self):
        desk = Desk(3)
        self.assertEqual(state(desk), (3, [], 0, 0, [], []))

    def test_desks_are_apart(self):
        one = Desk(2)
        other = Desk(2)
        one.come("a", 4)
        self.assert_desk(other, {}, 0, 0)

    def test_weight_is_1_where_none_is_told(self):
        desk = desk_of(1, "a a b")
        self.assert_desk(desk, {"a": 1}, 1, 3)

    def test_name_with_a_drawer(self):
        desk = desk_of(2, [("a", 3), ("a", 4), ("b", 1), ("a", 1), ("b", 1)])
        self.assert_desk(desk, {"a": 8, "b": 2}, 0, 10)

    def test_free_drawer_of_several(self):
        desk = desk_of(4, [("d", 3)])
        self.assert_desk(desk, {"d": 3}, 0, 3)
        desk.come("a", 9)
        self.assert_desk(desk, {"a": 9, "d": 3}, 0, 12)

    def test_last_free_drawer(self):
        desk = desk_of(3, [("a", 3), ("b", 2), ("c", 1)])
        self.assert_desk(desk, {"a": 3, "b": 2, "c": 1}, 0, 6)

    def test_all_taken_and_weight_less_than_the_least(self):
        desk = desk_of(2, [("a", 7), ("b", 4), ("c", 3)])
        self.assert_desk(desk, {"a": 4, "b": 1}, 3, 14)
        self.assertEqual((desk.least("c"), desk.most("c")), (0, 3))

    def test_all_taken_and_weight_just_the_least(self):
        desk = desk_of(2, [("a", 7), ("b", 4), ("c", 4)])
        self.assert_desk(desk, {"a": 3}, 4, 15)
        desk.come("d", 2)
        self.assert_desk(desk, {"a": 3, "d": 2}, 4, 17)

    def test_all_taken_and_weight_greater_than_the_least(self):
        desk = desk_of(2, [("a", 7), ("b", 4), ("c", 9)])
        self.assert_desk(desk, {"a": 3, "c": 5}, 4, 20)

    def test_weight_greater_than_every_number(self):
        desk = desk_of(3, [("a", 2), ("b", 3), ("c", 4), ("d", 100)])
        self.assert_desk(desk, {"b": 1, "c": 2, "d": 98}, 2, 109)

    def test_just_one_left_of_the_weight(self):
        desk = desk_of(2, [("a", 7), ("b", 4), ("c", 5)])
        self.assert_desk(desk, {"a": 3, "c": 1}, 4, 16)

    def test_several_drawers_fall_to_0_at_once(self):
        desk = desk_of(4, [("a", 2), ("b", 5), ("c", 2), ("d", 2), ("e", 6)])
        self.assert_desk(desk, {"b": 3, "e": 4}, 2, 17)
        desk.come("f", 1)
        desk.come("a", 1)
        self.assert_desk(desk, {"a": 1, "b": 3, "e": 4, "f": 1}, 2, 19)
        desk.come("g", 1)
        self.assert_desk(desk, {"b": 2, "e": 3}, 3, 20)

    def test_all_drawers_fall_to_0_at_once(self):
        desk = desk_of(3, "a b c d")
        self.assert_desk(desk, {}, 1, 4)
        desk.come("d")
        self.assert_desk(desk, {"d": 1}, 1, 5)

    def test_name_that_lost_its_drawer_begins_again(self):
        desk = desk_of(1, [("a", 2), ("b", 5), ("a", 1)])
        self.assert_desk(desk, {"b": 2}, 3, 8)
        desk.come("a", 4)
        self.assert_desk(desk, {"a": 2}, 5, 12)

    def test_losses_add_up(self):
        desk = desk_of(2, [("a", 9), ("b", 9), ("c", 2), ("d", 3), ("c", 1)])
        self.assert_desk(desk, {"a": 3, "b": 3}, 6, 24)

    def test_one_drawer(self):
        desk = desk_of(1, "a b c c b c c")
        self.assert_desk(desk, {"c": 3}, 2, 7)

    def test_fifty_drawers(self):
        names = many_names(52)
        desk = Desk(50)
        for at, name in enumerate(names[:50]):
            desk.come(name, at + 1)
        self.assert_desk(desk, {name: at + 1 for at, name in enumerate(names[:50])}, 0, 1275)
        desk.come(names[50], 4)
        expected = {name: at for at, name in enumerate(names[:50]) if at > 0}
        self.assert_desk(desk, {**expected, names[50]: 3}, 1, 1279)
        desk.come(names[51], 1)
        expected = {name: at - 1 for at, name in enumerate(names[:50]) if at > 1}
        self.assert_desk(desk, {**expected, names[50]: 2}, 2, 1280)

    def test_great_weights(self):
        desk = desk_of(2, [("a", GREAT), ("a", GREAT), ("b", GREAT), ("c", GREAT - 1)])
        self.assert_desk(desk, {"a": GREAT + 1, "b": 1}, GREAT - 1, 4 * GREAT - 1)
        desk.come("d", GREAT)
        self.assert_desk(desk, {"a": GREAT, "d": GREAT - 1}, GREAT, 5 * GREAT - 1)
        desk.come("e", GREAT)
        self.assert_desk(desk, {"a": 1, "e": 1}, 2 * GREAT - 1, 6 * GREAT - 1)


class TestTold(Case):
    def test_shown_in_the_order_of_the_names(self):
        desk = desk_of(6, "z b ab a ba m")
        self.assertEqual(list(desk.shown()), ["a", "ab", "b", "ba", "m", "z"])
        desk = desk_of(3, [("c", 3), ("b", 4), ("d", 5), ("a", 9)])
        self.assertEqual(list(desk.shown().items()), [("a", 6), ("b", 1), ("d", 2)])

    def test_least_and_most_with_and_without_a_drawer(self):
        desk = desk_of(2, [("a", 7), ("b", 4), ("c", 9)])
        self.assertEqual([desk.least(name) for name in "abcd"], [3, 0, 5, 0])
        self.assertEqual([desk.most(name) for name in "abcd"], [7, 4, 9, 4])

    def test_least_and_most_on_an_empty_desk(self):
        desk = Desk(2)
        self.assertEqual((desk.least("a"), desk.most("a")), (0, 0))
        self.assert_desk(desk, {}, 0, 0)

    def test_empty_desk_has_no_heavy_names(self):
        for drawers in (1, 50):
            desk = Desk(drawers)
            self.assertEqual((desk.maybe(), desk.surely()), ([], []))

    def test_just_all_weight_is_not_more_and_one_more_is(self):
        desk = desk_of(2, [("b", 2), ("a", 1)])
        self.assertEqual((desk.maybe(), desk.surely()), (["b"], ["b"]))
        desk = desk_of(2, [("b", 3), ("a", 2)])
        self.assertEqual((desk.maybe(), desk.surely()), (["a", "b"], ["a", "b"]))

    def test_just_all_weight_where_some_is_lost(self):
        desk = desk_of(2, [("b", 3), ("a", 2), ("c", 1)])
        self.assert_desk(desk, {"a": 1, "b": 2}, 1, 6)
        self.assertEqual((desk.maybe(), desk.surely()), (["b"], []))
        desk = desk_of(2, [("b", 4), ("a", 2), ("c", 1)])
        self.assert_desk(desk, {"a": 1, "b": 3}, 1, 7)
        self.assertEqual((desk.maybe(), desk.surely()), (["b"], ["b"]))
        desk = desk_of(2, [("b", 4), ("a", 3), ("c", 1)])
        self.assert_desk(desk, {"a": 2, "b": 3}, 1, 8)
        self.assertEqual((desk.maybe(), desk.surely()), (["a", "b"], ["b"]))

    def test_names_that_are_not_shown_are_in_no_list(self):
        desk = desk_of(1, [("a", 5), ("b", 5)])
        self.assert_desk(desk, {}, 5, 10)
        self.assertEqual((desk.maybe(), desk.surely()), ([], []))

    def test_one_drawer_tells_more_than_half(self):
        desk = desk_of(1, [("a", 3), ("b", 2)])
        self.assertEqual((desk.maybe(), desk.surely()), (["a"], []))
        desk = desk_of(1, "b")
        self.assertEqual((desk.maybe(), desk.surely()), (["b"], ["b"]))

    def test_lists_rise(self):
        desk = desk_of(4, [("d", 6), ("b", 7), ("c", 6), ("a", 7)])
        self.assertEqual(desk.maybe(), ["a", "b", "c", "d"])
        self.assertEqual(desk.surely(), ["a", "b", "c", "d"])

    def test_great_numbers_are_told_apart(self):
        desk = desk_of(2, [("a", GREAT), ("b", GREAT), ("b", GREAT)])
        self.assertEqual((desk.maybe(), desk.surely()), (["b"], ["b"]))
        desk = desk_of(2, [("a", GREAT), ("b", GREAT), ("b", GREAT - 1)])
        self.assertEqual((desk.maybe(), desk.surely()), (["a", "b"], ["a", "b"]))

    def test_told_dict_is_the_askers_own(self):
        desk = desk_of(2, [("b", 3), ("a", 2), ("c", 1)])
        before = state(desk)
        told = desk.shown()
        told["a"] = 99
        told["z"] = 1
        del told["b"]
        self.assertEqual(state(desk), before)
        desk.shown().clear()
        self.assertEqual(state(desk), before)
        desk.come("a", 1)
        self.assert_desk(desk, {"a": 2, "b": 2}, 1, 7)

    def test_told_lists_are_the_askers_own(self):
        desk = desk_of(2, [("b", 3), ("a", 2)])
        before = state(desk)
        for ask in (desk.maybe, desk.surely):
            told = ask()
            self.assertEqual(told, ["a", "b"])
            told.reverse()
            told.append("z")
            self.assertEqual(ask(), ["a", "b"])
            told.clear()
            self.assertEqual(state(desk), before)

    def test_told_earlier_stays_behind_later_comings(self):
        desk = desk_of(2, [("b", 3), ("a", 2)])
        told = (desk.shown(), desk.maybe(), desk.surely())
        desk.come("a", 5)
        desk.come("c", 4)
        self.assertEqual(told, ({"a": 2, "b": 3}, ["a", "b"], ["a", "b"]))

    def test_asking_changes_nothing(self):
        desk = desk_of(2, [("b", 3), ("a", 2), ("c", 1)])
        before = state(desk)
        desk.least("q")
        desk.most("q")
        desk.least("a")
        self.assertEqual(state(desk), before)
        desk.come("q", 1)
        self.assert_desk(desk, {"b": 1}, 2, 7)


if __name__ == "__main__":
    unittest.main()
