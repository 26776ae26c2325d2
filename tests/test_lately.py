"""[4.1], [4.2] and [0.2] of the row of desks."""

import unittest

from drawerdesk import lately
from drawerdesk.desks import Desk
from drawerdesk.errors import NoDesk, NoName, NoPiece, NoWeight
from drawerdesk.lately import Lately
from drawerdesk.pours import poured, smaller
from tests.helper import (
    GREAT, Case, Chance, desk_of, let_come, no_drawers, no_names, no_numbers_of_pieces,
    no_weights, state,
)

SOME = [("a", 1), ("b", 2), ("c", 2), ("a", 3), ("d", 1), ("b", 1), ("e", 4), ("c", 1),
        ("a", 2), ("f", 1), ("b", 3), ("d", 2), ("a", 1), ("g", 2), ("c", 3), ("e", 1)]


def row_of(drawers, piece, pieces, comings):
    """A row of desks to which these came."""
    row = Lately(drawers, piece, pieces)
    let_come(row, comings)
    return row


def kept(piece, pieces, comings):
    """The comings of each piece that is kept, the eldest first."""
    parts = [comings[at:at + piece] for at in range(0, len(comings), piece)]
    full = [part for part in parts if len(part) == piece]
    return full[-pieces:] + [part for part in parts if len(part) < piece]


def poured_by_hand(drawers, parts):
    """The desk that comes of these pieces, poured one by one."""
    if not parts:
        return Desk(drawers)
    desk = desk_of(drawers, parts[0])
    for part in parts[1:]:
        desk = poured(desk, desk_of(drawers, part))
    return desk


class RowCase(Case):
    def assert_row(self, row, drawers, parts):
        """The row tells just these pieces."""
        told = row.told()
        self.assertIs(type(told), Desk)
        self.assertEqual(state(told), state(poured_by_hand(drawers, parts)))
        self.assertEqual(row.reach(), sum(map(len, parts)))

    def follow(self, drawers, piece, pieces, comings):
        """Let these come, and hold the row against the pourings by hand at each of them."""
        row = Lately(drawers, piece, pieces)
        self.assert_row(row, drawers, [])
        for at, (name, weight) in enumerate(comings):
            row.come(name, weight)
            self.assert_row(row, drawers, kept(piece, pieces, comings[:at + 1]))
        return row


class TestInterface(unittest.TestCase):
    def test_class_stands_in_its_file_with_its_methods(self):
        self.assertEqual(Lately.__module__, "drawerdesk.lately")
        self.assertIs(lately.Lately, Lately)
        for name in ("come", "told", "reach"):
            self.assertIn(name, vars(Lately))

    def test_arguments_by_their_names(self):
        row = Lately(drawers=2, piece=3, pieces=1)
        row.come(name="a", weight=4)
        row.come("b", weight=2)
        row.come(name="c")
        row.come("b")
        self.assertEqual((row.reach(), row.told().shown()), (4, {"a": 3, "b": 2}))


class TestMaking(Case):
    def test_bounds(self):
        for drawers in (1, 2, 50):
            for piece in (1, 2, 12, 13, 999, 1000):
                for pieces in (1, 2, 6, 7, 49, 50):
                    self.check_new(Lately(drawers, piece, pieces), drawers, pieces)

    def check_new(self, row, drawers, pieces):
        """The row is taken; what it tells is promised up to 6 pieces."""
        if pieces <= 6:
            self.assertEqual(row.reach(), 0)
            self.assertEqual(state(row.told()), (drawers, [], 0, 0, [], []))
        row.come("a", 2)
        if pieces <= 6:
            self.assertEqual(row.reach(), 1)
            self.assertEqual(row.told().shown(), {"a": 2})

    def test_no_number_of_drawers_refused_ahead_of_all(self):
        for drawers in no_drawers():
            for piece, pieces in ((1, 1), (0, 1), (1, 0), (1001, 51), (None, "a"), (True, False)):
                self.assert_refused(NoDesk, Lately, drawers, piece, pieces)

    def test_no_piece_refused(self):
        for piece in no_numbers_of_pieces(1000):
            for pieces in (1, 50, 0, None):
                self.assert_refused(NoPiece, Lately, 1, piece, pieces)
                self.assert_refused(NoPiece, Lately, 50, piece, pieces)

    def test_no_pieces_refused(self):
        for pieces in no_numbers_of_pieces(50):
            for piece in (1, 1000, 0, None):
                self.assert_refused(NoPiece, Lately, 1, piece, pieces)
                self.assert_refused(NoPiece, Lately, 50, piece, pieces)

    def test_great_pieces_are_taken(self):
        for piece, pieces in ((1000, 50), (13, 1), (1, 7), (1, 50), (1000, 1)):
            row = Lately(1, piece, pieces)
            for _ in range(2 * piece + 1):
                row.come("a")
                row.come("b", 2)

    def test_many_comings_to_a_piece_that_is_not_full(self):
        comings = SOME * 62
        row = row_of(3, 1000, 6, comings)
        self.assertEqual(row.reach(), 992)
        self.assertEqual(state(row.told()), state(desk_of(3, comings)))


class TestTold(RowCase):
    def test_no_coming(self):
        row = Lately(3, 2, 2)
        self.assertEqual(row.reach(), 0)
        self.assert_desk(row.told(), {}, 0, 0)
        self.assertEqual(row.told().drawers(), 3)

    def test_fewer_comings_than_a_piece(self):
        row = row_of(2, 4, 2, [("b", 3), ("a", 2), ("c", 1)])
        self.assertEqual(row.reach(), 3)
        self.assert_desk(row.told(), {"a": 1, "b": 2}, 1, 6)

    def test_a_piece_just_full(self):
        row = row_of(2, 3, 2, [("b", 3), ("a", 2), ("c", 1)])
        self.assertEqual(row.reach(), 3)
        self.assert_desk(row.told(), {"a": 1, "b": 2}, 1, 6)

    def test_one_more_than_a_piece(self):
        row = row_of(2, 3, 2, [("b", 3), ("a", 2), ("c", 1), ("d", 3)])
        self.assertEqual(row.reach(), 4)
        self.assert_desk(row.told(), {"b": 1, "d": 2}, 2, 9)
        row.come("c", 2)
        self.assertEqual(row.reach(), 5)
        # One desk of all of these would show "c" with 1, too.
        self.assert_desk(row.told(), {"d": 1}, 3, 11)

    def test_the_piece_at_which_the_eldest_goes(self):
        row = row_of(5, 2, 2, [("a", 1), ("b", 1), ("c", 1), ("d", 1)])
        self.assertEqual((row.reach(), list(row.told().shown())), (4, ["a", "b", "c", "d"]))
        row.come("e")
        self.assertEqual((row.reach(), list(row.told().shown())), (5, ["a", "b", "c", "d", "e"]))
        row.come("e")
        self.assertEqual((row.reach(), row.told().shown()), (4, {"c": 1, "d": 1, "e": 2}))
        self.assertEqual((row.told().lost(), row.told().weight()), (0, 4))
        row.come("f")
        self.assertEqual((row.reach(), row.told().weight()), (5, 5))
        row.come("g")
        self.assertEqual((row.reach(), row.told().shown()), (4, {"e": 2, "f": 1, "g": 1}))

    def test_piece_of_one(self):
        row = Lately(3, 1, 2)
        told = []
        for name in "abcab":
            row.come(name)
            told.append((row.reach(), "".join(row.told().shown())))
        self.assertEqual(told, [(1, "a"), (2, "ab"), (2, "bc"), (2, "ac"), (2, "ab")])

    def test_pieces_of_one(self):
        row = Lately(3, 2, 1)
        told = []
        for name in "abcde":
            row.come(name)
            told.append((row.reach(), "".join(row.told().shown())))
        self.assertEqual(told, [(1, "a"), (2, "ab"), (3, "abc"), (2, "cd"), (3, "cde")])

    def test_piece_and_pieces_of_one(self):
        row = Lately(3, 1, 1)
        for name, weight in SOME:
            row.come(name, weight)
            self.assertEqual(row.reach(), 1)
            self.assert_desk(row.told(), {name: weight}, 0, weight)

    def test_the_eldest_is_poured_first(self):
        row = row_of(1, 1, 3, [("a", 1), ("b", 1), ("c", 2)])
        self.assert_desk(row.told(), {"c": 2}, 1, 4)
        row = row_of(2, 2, 3, [("a", 1), ("a", 1), ("a", 1), ("b", 2), ("c", 3), ("d", 3)])
        self.assert_desk(row.told(), {}, 3, 11)

    def test_the_one_that_is_not_full_is_poured_last(self):
        row = row_of(2, 3, 3, [("a", 1), ("a", 1), ("e", 1), ("a", 1), ("b", 2), ("e", 1),
                               ("c", 3), ("d", 3)])
        self.assert_row(row, 2, [[("a", 1), ("a", 1), ("e", 1)], [("a", 1), ("b", 2), ("e", 1)],
                                 [("c", 3), ("d", 3)]])
        row = row_of(1, 2, 3, [("a", 1), ("a", 2), ("b", 2), ("b", 1), ("c", 2)])
        self.assert_desk(row.told(), {"c": 2}, 3, 8)

    def test_each_piece_is_a_desk_of_its_own(self):
        # One desk of all of these would show "c" with 1 and have lost 1.
        row = row_of(1, 2, 2, [("a", 1), ("b", 1), ("c", 1), ("d", 1)])
        self.assert_desk(row.told(), {}, 2, 4)
        row = row_of(1, 3, 2, [("a", 1), ("b", 1), ("c", 1), ("d", 1)])
        self.assert_desk(row.told(), {}, 2, 4)
        self.assertEqual(row.reach(), 4)

    def test_against_pourings_by_hand_at_each_coming(self):
        for drawers in (1, 2, 3, 5):
            for piece in (1, 2, 3, 5, 12):
                for pieces in (1, 2, 3, 6):
                    self.follow(drawers, piece, pieces, SOME * 2)

    def test_heavy_names_of_the_last_comings_alone(self):
        row = row_of(2, 2, 1, [("a", 90), ("b", 90), ("c", 2), ("d", 1), ("c", 3)])
        told = row.told()
        self.assertEqual((row.reach(), told.weight()), (3, 6))
        self.assertEqual((told.maybe(), told.surely()), (["c"], ["c"]))

    def test_great_weights(self):
        row = self.follow(1, 2, 2, [("a", GREAT), ("b", GREAT - 1), ("a", 1), ("b", GREAT),
                                    ("b", GREAT), ("c", GREAT), ("c", 1)])
        self.assertEqual(row.told().weight(), 3 * GREAT + 2)

    def test_fifty_drawers(self):
        names = [one + other for one in "abcdefgh" for other in "abcdefghi"]
        self.follow(50, 12, 6, [(name, 1 + at % 5) for at, name in enumerate(names)])


class TestRefused(RowCase):
    def test_wrong_name_then_wrong_weight(self):
        row = row_of(2, 3, 2, SOME[:4])
        for name in no_names():
            for weight in (1, 0, None, GREAT + 1):
                self.assert_refused(NoName, row.come, name, weight)
            self.assert_refused(NoName, row.come, name)
        for weight in no_weights():
            self.assert_refused(NoWeight, row.come, "a", weight)
            self.assert_refused(NoWeight, row.come, "unheard", weight)
        self.assert_row(row, 2, [SOME[:3], SOME[3:4]])

    def test_refused_coming_counts_for_nothing(self):
        for piece in (1, 2, 3, 4):
            for pieces in (1, 2):
                row = Lately(2, piece, pieces)
                self.refuse_twice(row)
                for at, (name, weight) in enumerate(SOME):
                    self.assert_row(row, 2, kept(piece, pieces, SOME[:at]))
                    row.come(name, weight)
                    self.refuse_twice(row)
                self.assert_row(row, 2, kept(piece, pieces, SOME))

    def refuse_twice(self, row):
        self.assert_refused(NoName, row.come, "A", 5)
        self.assert_refused(NoWeight, row.come, "a", 0)

    def test_piece_fills_no_sooner(self):
        row = row_of(3, 2, 1, [("a", 1), ("b", 1), ("c", 1)])
        for _ in range(5):
            self.assert_refused(NoWeight, row.come, "d", 0)
            self.assert_refused(NoName, row.come, "D", 1)
        self.assertEqual((row.reach(), row.told().shown()), (3, {"a": 1, "b": 1, "c": 1}))
        row.come("d")
        self.assertEqual((row.reach(), row.told().shown()), (2, {"c": 1, "d": 1}))


class TestOwn(RowCase):
    def test_told_desk_is_the_askers_own(self):
        for many in range(8):
            row = row_of(2, 3, 2, SOME[:many])
            parts = kept(3, 2, SOME[:many])
            told = row.told()
            for coming in (("z", 50), ("a", 7), ("y", 3), ("x", 60)):
                told.come(*coming)
            self.assert_row(row, 2, parts)
            self.assertEqual(told.weight(), sum(weight for _, weight in sum(parts, [])) + 120)
            # What comes to the row later is as if nothing had come to the told desk.
            let_come(row, SOME[many:])
            self.assert_row(row, 2, kept(3, 2, SOME))

    def test_told_desk_stays_when_more_comes(self):
        for many in range(8):
            row = row_of(2, 3, 2, SOME[:many])
            told = row.told()
            before = state(told)
            let_come(row, SOME[many:])
            self.assertEqual(state(told), before)

    def test_each_time_another_desk(self):
        for many in range(8):
            row = row_of(2, 3, 2, SOME[:many])
            one, other = row.told(), row.told()
            self.assertIsNot(one, other)
            before = state(other)
            one.come("z", 9)
            self.assertEqual(state(other), before)
            self.assertEqual(state(row.told()), before)

    def test_asking_changes_nothing(self):
        asked, other = Lately(2, 3, 2), Lately(2, 3, 2)
        for name, weight in SOME:
            asked.told()
            asked.reach()
            smaller(poured(asked.told(), asked.told()), 1)
            asked.told().shown().clear()
            asked.come(name, weight)
            other.come(name, weight)
        self.assertEqual(state(asked.told()), state(other.told()))
        self.assertEqual(asked.reach(), other.reach())

    def test_two_rows_are_apart(self):
        one, other = Lately(2, 2, 2), Lately(2, 2, 2)
        let_come(one, SOME)
        self.assert_row(other, 2, [])
        let_come(other, SOME[:3])
        self.assert_row(one, 2, kept(2, 2, SOME))
        self.assert_row(other, 2, kept(2, 2, SOME[:3]))


class TestMadeRows(RowCase):
    def test_made_comings(self):
        for seed in range(60):
            chance = Chance(7000 + seed)
            drawers, piece, pieces = (1 + chance.below(most) for most in (6, 12, 6))
            names = "abcdefghijkl"[:2 + chance.below(11)]
            comings = [(chance.among(names), 1 + chance.below(chance.among([1, 3, 12])))
                       for _ in range(50)]
            self.follow(drawers, piece, pieces, comings)


if __name__ == "__main__":
    unittest.main()
