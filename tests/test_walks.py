"""[3.1] and [0.2] of the two walks."""

import unittest

from drawerdesk import walks
from drawerdesk.desks import Desk
from drawerdesk.errors import NoDesk, NoName, NoWeight
from drawerdesk.walks import counted, heavy
from tests.helper import (
    GREAT, Case, desk_of, many_names, no_drawers, no_names, no_weights, state,
)


class TestInterface(unittest.TestCase):
    def test_functions_stand_in_their_file(self):
        for name in ("counted", "heavy"):
            self.assertEqual(getattr(walks, name).__module__, "drawerdesk.walks")

    def test_arguments_by_their_names(self):
        self.assertEqual(counted(desk=desk_of(2, "a"), comings=[("a", 3)]), {"a": 3})
        self.assertEqual(heavy(comings=[("a", 3)], drawers=1), ["a"])


class TestCounted(Case):
    def assert_counted(self, desk, comings, expected):
        """These weights, in the order of the names; the desk and the comings stay."""
        before, held = state(desk), list(comings)
        told = counted(desk, comings)
        self.assertIs(type(told), dict)
        self.assertEqual(list(told.items()), expected)
        self.assertEqual((state(desk), comings), (before, held))

    def test_weights_of_one_name_add_up(self):
        self.assert_counted(desk_of(2, "a b"), [("a", 2), ("b", 5), ("a", 4), ("a", 1)],
                            [("a", 7), ("b", 5)])

    def test_not_what_the_desk_shows(self):
        desk = desk_of(2, [("a", 9), ("b", 4), ("c", 2)])
        self.assert_desk(desk, {"a": 7, "b": 2}, 2, 15)
        self.assert_counted(desk, [("a", 1)], [("a", 1), ("b", 0)])

    def test_names_that_are_shown_and_do_not_come(self):
        self.assert_counted(desk_of(3, "a b c"), [("b", 2)], [("a", 0), ("b", 2), ("c", 0)])

    def test_names_that_come_and_are_not_shown(self):
        desk = desk_of(2, "a b")
        self.assert_counted(desk, [("c", 9), ("a", 2), ("abcdefgh", 1)], [("a", 2), ("b", 0)])
        # A name that has lost its drawer is not shown either.
        desk.come("c")
        desk.come("d")
        self.assert_counted(desk, [("a", 2), ("c", 9), ("d", 3), ("b", 1)], [("d", 3)])

    def test_in_the_order_of_the_names(self):
        desk = desk_of(5, "z m ab a b")
        self.assert_counted(desk, [("m", 1), ("b", 4), ("z", 2), ("a", 3)],
                            [("a", 3), ("ab", 0), ("b", 4), ("m", 1), ("z", 2)])

    def test_no_comings(self):
        self.assert_counted(desk_of(3, "b a"), [], [("a", 0), ("b", 0)])
        self.assert_counted(Desk(3), [], [])

    def test_empty_desk(self):
        self.assert_counted(Desk(1), [("a", 2), ("b", 1)], [])
        self.assert_counted(desk_of(1, "a b"), [("a", 2), ("b", 1)], [])

    def test_bounds_of_names_and_weights(self):
        desk = desk_of(3, "a abcdefgh z")
        comings = [("abcdefgh", GREAT), ("z", 1), ("abcdefgh", GREAT), ("a", GREAT - 1),
                   ("a", 1), ("b", GREAT)]
        self.assert_counted(desk, comings, [("a", GREAT), ("abcdefgh", 2 * GREAT), ("z", 1)])

    def test_fifty_drawers(self):
        names = many_names(60)
        desk = desk_of(50, [(name, 1) for name in names[:50]])
        comings = [(name, at + 1) for at, name in enumerate(names)] * 2
        self.assert_counted(desk, comings[::-1],
                            [(name, 2 * at + 2) for at, name in enumerate(names[:50])])

    def assert_counting_refused(self, error, comings):
        for desk in (Desk(1), desk_of(2, "a b"), desk_of(2, [("a", 5), ("b", 4), ("c", 3)])):
            before, held = state(desk), list(comings)
            self.assert_refused(error, counted, desk, comings)
            self.assertEqual(state(desk), before)
            # By identity: some wrong things refuse to be compared.
            self.assertEqual(list(map(id, comings)), list(map(id, held)))

    def test_wrong_names(self):
        for name in no_names():
            self.assert_counting_refused(NoName, [(name, 1)])
        self.assert_counting_refused(NoName, [("a", 1), ("b", 2), ("A", 1)])
        self.assert_counting_refused(NoName, [("", 1), ("a", 1)])

    def test_wrong_weights(self):
        for weight in no_weights():
            self.assert_counting_refused(NoWeight, [("a", weight)])
        self.assert_counting_refused(NoWeight, [("a", 1), ("b", 2), ("a", 0)])
        self.assert_counting_refused(NoWeight, [("a", GREAT + 1), ("a", 1)])

    def test_wrong_weight_of_a_name_that_is_not_shown(self):
        for weight in no_weights():
            self.assert_counting_refused(NoWeight, [("a", 1), ("unheard", weight)])

    def test_both_wrong_in_one_pair(self):
        self.assert_counting_refused(NoName, [("A", 0)])
        self.assert_counting_refused(NoName, [("a", 1), (None, None)])

    def test_two_wrong_pairs(self):
        self.assert_counting_refused(NoWeight, [("a", 0), ("A", 1)])
        self.assert_counting_refused(NoName, [("A", 1), ("a", 0)])
        self.assert_counting_refused(NoWeight, [("a", 1), ("unheard", 0), ("b", 1), ("", 1)])
        self.assert_counting_refused(NoName, [("a", 1), ("", 1), ("unheard", 0), ("b", 1)])

    def test_told_dict_is_the_askers_own(self):
        desk = desk_of(2, [("a", 3), ("b", 2)])
        comings = [("a", 1), ("b", 4)]
        before = state(desk)
        told = counted(desk, comings)
        told["a"] = 99
        told["c"] = 1
        del told["b"]
        self.assertEqual((state(desk), comings), (before, [("a", 1), ("b", 4)]))
        self.assertEqual(counted(desk, comings), {"a": 1, "b": 4})


class TestHeavy(Case):
    def assert_heavy(self, comings, drawers, expected):
        held = list(comings)
        told = heavy(comings, drawers)
        self.assertIs(type(told), list)
        self.assertEqual(told, expected)
        self.assertEqual(comings, held)

    def test_just_one_in_so_many_and_one_more(self):
        for drawers in (1, 2, 3, 7, 49, 50):
            share = 10
            others = [(name, 1) for name in many_names(drawers * share)]
            # "z" weighs just one in (drawers and one) of all: share of (drawers + 1) * share.
            self.assert_heavy([("z", share), *others], drawers, [])
            self.assert_heavy([*others, ("z", share)], drawers, [])
            self.assert_heavy([("z", share), *others[1:]], drawers, ["z"])
            self.assert_heavy([*others, ("z", share + 1)], drawers, ["z"])
            self.assert_heavy([("z", share + 1), *others], drawers, ["z"])
            self.assert_heavy([*others[:7], ("z", share), *others[7:], ("z", 1)], drawers, ["z"])
            self.assert_heavy([("z", share - 1), *others], drawers, [])

    def test_all_just_at_their_share(self):
        self.assert_heavy([("a", 5), ("b", 5), ("c", 5)], 2, [])
        self.assert_heavy([("a", 6), ("b", 5), ("c", 5)], 2, ["a"])
        self.assert_heavy([("c", 5), ("b", 6), ("a", 6)], 2, ["a", "b"])
        self.assert_heavy([("a", 5), ("b", 5)], 1, [])
        self.assert_heavy([("a", 5), ("b", 5)], 2, ["a", "b"])

    def test_rising_order(self):
        self.assert_heavy([("z", 5), ("ab", 4), ("m", 4), ("a", 4), ("b", 4)], 5,
                          ["a", "ab", "b", "m", "z"])

    def test_name_shown_that_is_not_heavy(self):
        # The last one shows by its drawer that it may be heavy, and is not.
        self.assertEqual(desk_of(1, "a b c").maybe(), ["c"])
        self.assert_heavy([("a", 1), ("b", 1), ("c", 1)], 1, [])
        self.assert_heavy([("a", 3), ("b", 1), ("c", 1), ("b", 1), ("d", 2)], 3, ["a"])

    def test_more_candidates_than_can_be_heavy(self):
        names = many_names(80)
        self.assert_heavy([(name, 1) for name in names], 50, [])
        self.assert_heavy([(name, 1) for name in names[:50]], 50, names[:50])
        self.assert_heavy([(name, 1) for name in names[:51]], 50, [])
        comings = [(name, 1) for name in names] + [(names[70], 1), (names[3], 1)]
        self.assert_heavy(comings, 50, [names[3], names[70]])

    def test_heavy_name_that_lost_its_drawer_on_the_way(self):
        self.assert_heavy([("a", 2), ("b", 2), ("c", 1), ("a", 4)], 1, ["a"])
        self.assert_heavy([("a", 3), ("b", 3), ("a", 1)], 1, ["a"])

    def test_no_comings(self):
        for drawers in (1, 2, 50):
            self.assert_heavy([], drawers, [])

    def test_one_coming(self):
        for drawers in (1, 2, 50):
            self.assert_heavy([("b", 1)], drawers, ["b"])
            self.assert_heavy([("b", GREAT)], drawers, ["b"])

    def test_one_drawer(self):
        self.assert_heavy([("a", 1), ("b", 1), ("a", 1)], 1, ["a"])
        self.assert_heavy([("a", 1), ("b", 2), ("a", 1)], 1, [])
        self.assert_heavy([("a", 1), ("b", 5), ("c", 1), ("a", 2)], 1, ["b"])

    def test_great_weights(self):
        self.assert_heavy([("a", GREAT), ("b", GREAT)], 1, [])
        self.assert_heavy([("a", GREAT), ("b", GREAT - 1)], 1, ["a"])
        self.assert_heavy([("a", GREAT), ("b", GREAT), ("b", 1)], 1, ["b"])
        self.assert_heavy([("b", GREAT), ("c", GREAT), ("a", GREAT - 1)], 2, ["b", "c"])

    def test_no_number_of_drawers_refused_ahead_of_all(self):
        for drawers in no_drawers():
            for comings in ([], [("a", 1)], [("A", 1)], [("a", 0)], [(None, None)]):
                self.assert_refused(NoDesk, heavy, comings, drawers)

    def test_wrong_pairs(self):
        for name in no_names():
            self.assert_refused(NoName, heavy, [("a", 1), (name, 1)], 2)
            self.assert_refused(NoName, heavy, [(name, 0)], 2)
        for weight in no_weights():
            self.assert_refused(NoWeight, heavy, [("a", 1), ("b", weight)], 2)
            self.assert_refused(NoWeight, heavy, [("a", 9), ("b", 9), ("c", weight)], 1)

    def test_two_wrong_pairs(self):
        for drawers in (1, 50):
            self.assert_refused(NoWeight, heavy, [("a", 0), ("A", 1)], drawers)
            self.assert_refused(NoName, heavy, [("A", 1), ("a", 0)], drawers)
            self.assert_refused(NoWeight, heavy, [("a", 1), ("b", -1), ("A", 1)], drawers)
            self.assert_refused(NoName, heavy, [("a", 1), ("A", 1), ("b", -1)], drawers)

    def test_refused_list_stays(self):
        for comings, error in (([("a", 1), ("b", 0)], NoWeight), ([("a", 1), ("", 1)], NoName)):
            held = list(comings)
            self.assert_refused(error, heavy, comings, 1)
            self.assertEqual(comings, held)

    def test_told_list_is_the_askers_own(self):
        comings = [("a", 3), ("b", 2)]
        told = heavy(comings, 2)
        told.append("c")
        told[0] = "z"
        self.assertEqual(comings, [("a", 3), ("b", 2)])
        self.assert_heavy(comings, 2, ["a", "b"])


if __name__ == "__main__":
    unittest.main()
