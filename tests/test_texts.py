"""[5.1] and [0.2] of desks as texts."""

import re
import unittest

from drawerdesk import texts
from drawerdesk.desks import Desk
from drawerdesk.errors import DrawerError, NoText
from drawerdesk.pours import poured, smaller
from drawerdesk.texts import read, written
from tests.helper import GREAT, Case, Chance, desk_of, many_names, state

MOST = 10 ** 70


def some_desks():
    """Desks of all kinds: empty, full, with losses, poured, made smaller."""
    names = many_names(100)
    lost = desk_of(2, [("b", 5), ("a", 4), ("c", 3)])
    return [
        Desk(1), Desk(50), desk_of(1, "a"), desk_of(1, "a b"), desk_of(3, "b a"),
        desk_of(3, [("desk", 4), ("abcdefgh", 10), ("z", 1)]), lost,
        poured(lost, desk_of(2, [("d", 5), ("a", 1)])), poured(desk_of(1, "a"), desk_of(1, "b")),
        smaller(lost, 1), smaller(desk_of(4, [("z", 9), ("b", 5), ("c", 2), ("a", 5)]), 2),
        smaller(desk_of(50, names[:50]), 49), desk_of(50, names), desk_of(50, names[::-1]),
        desk_of(2, [("a", GREAT)] * 30 + [("b", GREAT)] * 9 + [("c", GREAT)] * 8),
        poured(desk_of(50, [(name, GREAT) for name in names[:50]]),
               desk_of(50, [(name, GREAT - 1) for name in names[50:]])),
    ]


def number_of(word, least):
    """The number that figures alone tell, from least to 10 ** 70; else None."""
    if re.fullmatch("0|[1-9][0-9]{0,70}", word) and least <= int(word) <= MOST:
        return int(word)
    return None


def fault(text):
    """The row that the document tells of a text, or None where the text is a desk's."""
    rows = text.split("\n")
    if rows[-1] == "":
        rows = rows[:-1]
    found = {}
    for at, row in enumerate(rows):
        if at == 0:
            first = re.fullmatch("desk ([0-9]+) ([0-9]+) ([0-9]+)", row)
            if not first:
                return 0
            drawers, lost, weight = (number_of(first[part], least)
                                     for part, least in ((1, 1), (2, 0), (3, 0)))
            if None in (drawers, lost, weight) or drawers > 50:
                return 0
        else:
            pair = re.fullmatch("([a-z]{1,8}) ([0-9]+)", row)
            if not pair or number_of(pair[2], 1) is None or at > drawers:
                return at
            if any(pair[1] <= name for name in found):
                return at
            found[pair[1]] = int(pair[2])
    if not rows or text[-1] != "\n":
        return len(rows)
    if sum(found.values()) + (drawers + 1) * lost > weight:
        return len(rows)
    return None


class TextCase(Case):
    def assert_no_text(self, text, row):
        with self.assertRaises(DrawerError, msg=ascii(text)) as caught:
            read(text)
        self.assert_refused(NoText, read, text)
        self.assertIs(type(caught.exception.row), int)
        self.assertEqual(caught.exception.row, row, ascii(text))

    def assert_text(self, text, drawers, shown, lost, weight):
        """The text is read as this desk, and written the same."""
        desk = read(text)
        self.assert_desk(desk, shown, lost, weight)
        self.assertEqual(desk.drawers(), drawers)
        self.assertEqual(written(desk), text)


class TestInterface(unittest.TestCase):
    def test_functions_stand_in_their_file(self):
        for name in ("written", "read"):
            self.assertEqual(getattr(texts, name).__module__, "drawerdesk.texts")

    def test_arguments_by_their_names(self):
        self.assertEqual(written(desk=Desk(4)), "desk 4 0 0\n")
        self.assertEqual(read(text="desk 4 0 0\n").drawers(), 4)


class TestWritten(Case):
    def test_empty_desk(self):
        self.assertEqual(written(Desk(1)), "desk 1 0 0\n")
        self.assertEqual(written(Desk(50)), "desk 50 0 0\n")

    def test_names_in_order(self):
        desk = desk_of(5, [("z", 2), ("m", 10), ("ab", 1), ("a", 7), ("b", 3)])
        self.assertEqual(written(desk), "desk 5 0 23\na 7\nab 1\nb 3\nm 10\nz 2\n")

    def test_full_desk(self):
        self.assertEqual(written(desk_of(2, [("b", 5), ("a", 4)])), "desk 2 0 9\na 4\nb 5\n")

    def test_desk_that_has_lost(self):
        self.assertEqual(written(desk_of(2, [("b", 5), ("a", 4), ("c", 3)])),
                         "desk 2 3 12\na 1\nb 2\n")
        self.assertEqual(written(desk_of(1, "a b")), "desk 1 1 2\n")
        self.assertEqual(written(poured(desk_of(1, [("a", 7)]), desk_of(1, [("b", 4)]))),
                         "desk 1 4 11\na 3\n")

    def test_great_numbers(self):
        desk = desk_of(1, [("a", GREAT), ("a", GREAT), ("b", GREAT - 1)])
        self.assertEqual(written(desk), f"desk 1 {GREAT - 1} {3 * GREAT - 1}\na {GREAT + 1}\n")

    def test_a_text_and_the_desk_stays(self):
        for desk in some_desks():
            before = state(desk)
            text = written(desk)
            self.assertIs(type(text), str)
            self.assertEqual(state(desk), before)
            self.assertEqual(written(desk), text)
            self.assertEqual(len(text.split("\n")), len(desk.shown()) + 2)


class TestReadBack(TextCase):
    def test_all_is_read_back(self):
        for desk in some_desks():
            text = written(desk)
            again = read(text)
            self.assertIs(type(again), Desk)
            self.assertIsNot(again, desk)
            self.assertEqual(state(again), state(desk))
            self.assertEqual(written(again), text)
            self.assertIsNone(fault(text))

    def test_goes_on_as_the_one_it_was_written_from(self):
        for desk in some_desks():
            again = read(written(desk))
            other = desk_of(desk.drawers(), [("q", 3), ("a", 2), ("x", 1)])
            self.assertEqual(state(poured(again, other)), state(poured(desk, other)))
            self.assertEqual(state(poured(other, again)), state(poured(other, desk)))
            for drawers in range(1, desk.drawers() + 1):
                self.assertEqual(state(smaller(again, drawers)), state(smaller(desk, drawers)))
            for coming in (("a", 1), ("q", 2), ("r", 1), ("s", 9), ("a", 4), ("b", GREAT)):
                again.come(*coming)
                desk.come(*coming)
                self.assertEqual(state(again), state(desk))
                self.assertEqual((again.least("a"), again.most("q")),
                                 (desk.least("a"), desk.most("q")))

    def test_coming_to_a_desk_that_was_read_changes_no_other(self):
        for desk in some_desks():
            before = state(desk)
            text = written(desk)
            one, other = read(text), read(text)
            for coming in (("a", 1), ("q", 2), ("r", 1), ("s", 9)):
                one.come(*coming)
            self.assertEqual((state(desk), state(other)), (before, before))

    def test_texts_of_no_known_history(self):
        self.assert_text("desk 3 0 6\na 1\nb 2\nz 3\n", 3, {"a": 1, "b": 2, "z": 3}, 0, 6)
        self.assert_text("desk 2 3 12\na 1\nb 2\n", 2, {"a": 1, "b": 2}, 3, 12)
        self.assert_text("desk 2 3 100\na 1\n", 2, {"a": 1}, 3, 100)
        self.assert_text("desk 50 0 0\n", 50, {}, 0, 0)
        self.assert_text("desk 1 5 10\n", 1, {}, 5, 10)

    def test_name_desk(self):
        self.assert_text("desk 1 0 7\ndesk 7\n", 1, {"desk": 7}, 0, 7)

    def test_numbers_up_to_the_greatest(self):
        self.assert_text(f"desk 1 0 {MOST}\na {MOST}\n", 1, {"a": MOST}, 0, MOST)
        half = MOST // 2
        self.assert_text(f"desk 1 {half} {MOST}\n", 1, {}, half, MOST)
        self.assert_text(f"desk 2 1 {MOST}\na {MOST - 4}\nb 1\n", 2,
                         {"a": MOST - 4, "b": 1}, 1, MOST)
        self.assert_text("desk 1 0 99\na 9\n".replace("9", "9" * 35), 1,
                         {"a": 10 ** 35 - 1}, 0, 10 ** 70 - 1)

    def test_just_as_many_rows_as_drawers(self):
        names = many_names(50)
        text = "desk 50 0 50\n" + "".join(f"{name} 1\n" for name in names)
        self.assert_text(text, 50, {name: 1 for name in names}, 0, 50)


class TestNoText(TextCase):
    def test_no_row(self):
        self.assert_no_text("", 0)

    def test_first_row(self):
        for row in (
                "", " ", "desk", "desk ", "desk 1", "desk 1 0", "desk 1 0 ", "desk 1 0 0 0",
                "desk 1 0 0 ", " desk 1 0 0", "desk  1 0 0", "desk 1  0 0", "desk 1 0  0",
                "desk 1 0 0 a", "a 1 0 0", "desks 1 0 0", "des 1 0 0", "Desk 1 0 0", "DESK 1 0 0",
                " 1 0 0", "1 0 0", "desk1 0 0", "desk 1,0,0", "desk\t1 0 0", "desk 1\t0 0",
                "desk 1 0 0\t", "\tdesk 1 0 0", "desk 1 0 0\r", "desk 1 0 0;", "a 5", "a",
                "desk 1 0 0 0 0", "desk 1 00"):
            self.assert_no_text(row + "\n", 0)
            self.assert_no_text(row + "\na 1\n", 0)
            if row:
                self.assert_no_text(row, 0)

    def test_figures_of_the_first_row(self):
        for word in ("+1", "-1", "-0", "+0", "00", "01", "001", "0 1", "a", "1a", "a1", "1.0",
                     "1_0", "0x1", "1e1", "", "one", "1,0", ".", "#", "'1'", "1-", "0b1", "9" * 71,
                     str(MOST + 1), str(10 * MOST), "1" + "0" * 71, "9" * 5000, "0" * 71,
                     "0" * 5000, "-" + "1" * 70):
            for row in (f"desk {word} 0 9", f"desk 1 {word} 9", f"desk 1 0 {word}"):
                self.assert_no_text(row + "\n", 0)
                self.assert_no_text(row + "\na 1\n", 0)

    def test_no_number_of_drawers(self):
        for drawers in (0, 51, 52, 100, 500, GREAT, MOST):
            self.assert_no_text(f"desk {drawers} 0 0\n", 0)
            self.assert_no_text(f"desk {drawers} 0 1\na 1\n", 0)

    def test_rows_of_names(self):
        for row in (
                "", " ", "a", "a ", " 1", "1", "a  1", " a 1", "a 1 ", "a 1 1", "a\t1", "a 1\t",
                "\ta 1", "a 1\r", "a1", "a,1", "1 a", "A 1", "aB 1", "abcdefghi 1", "a_ 1", "a1 1",
                "- 1", "a- 1", "` 1", "{ 1", "a b 1", "desk 1 0 0", "desk 2 0 9", "a:1", "a 1;"):
            self.assert_no_text(f"desk 2 0 9\n{row}\n", 1)
            self.assert_no_text(f"desk 2 0 9\n{row}\nb 1\n", 1)
            self.assert_no_text(f"desk 3 0 9\na 1\n{row}\nb 1\n", 2)

    def test_figures_of_the_rows_of_names(self):
        for word in ("0", "+1", "-1", "-0", "00", "01", "001", "010", "x", "1x", "x1", "1.0",
                     "1_0", "0x1", "1e1", "1 2", " 1", "1 ", "one", "9" * 71, str(MOST + 1),
                     str(10 * MOST), "9" * 5000, "0" * 5000, "0" * 70 + "1"):
            for text in (f"desk 2 0 {MOST}\nb {word}\n", f"desk 2 0 {MOST}\nb {word}\nc 1\n"):
                self.assert_no_text(text, 1)
            self.assert_no_text(f"desk 2 0 {MOST}\na 1\nb {word}\n", 2)

    def test_name_twice(self):
        self.assert_no_text("desk 3 0 9\na 1\na 1\n", 2)
        self.assert_no_text("desk 3 0 9\na 1\na 2\nb 1\n", 2)
        self.assert_no_text("desk 3 0 9\na 1\nb 1\nb 1\n", 3)
        self.assert_no_text("desk 3 0 9\na 1\nb 1\na 1\n", 3)

    def test_names_out_of_order(self):
        self.assert_no_text("desk 3 0 9\nb 1\na 1\n", 2)
        self.assert_no_text("desk 3 0 9\nb 1\na 1\nc 1\n", 2)
        self.assert_no_text("desk 3 0 9\na 1\nc 1\nb 1\n", 3)
        self.assert_no_text("desk 3 0 9\nab 1\na 1\n", 2)
        self.assert_no_text("desk 3 0 9\nb 1\nab 1\n", 2)
        self.assert_text("desk 3 0 3\na 1\nab 1\nb 1\n", 3, {"a": 1, "ab": 1, "b": 1}, 0, 3)

    def test_one_row_more_than_drawers(self):
        self.assert_no_text("desk 1 0 9\na 1\nb 1\n", 2)
        self.assert_no_text("desk 1 0 9\na 1\nb 1\nc 1\nd 1\n", 2)
        self.assert_no_text("desk 3 0 9\na 1\nb 1\nc 1\nd 1\n", 4)
        names = many_names(51)
        self.assert_no_text("desk 50 0 51\n" + "".join(f"{name} 1\n" for name in names), 51)

    def test_last_line_end_left_out(self):
        for desk in some_desks():
            text = written(desk)[:-1]
            self.assert_no_text(text, len(desk.shown()) + 1)
        self.assert_no_text("desk 1 0 0", 1)
        self.assert_no_text("desk 1 0 5\na 5", 2)
        self.assert_no_text("desk 2 0 9\na 5\nb 4", 3)

    def test_empty_rows(self):
        self.assert_no_text("\n", 0)
        self.assert_no_text("\n\n", 0)
        self.assert_no_text("\ndesk 1 0 0\n", 0)
        self.assert_no_text("desk 1 0 0\n\n", 1)
        self.assert_no_text("desk 2 0 9\na 1\n\n", 2)
        self.assert_no_text("desk 2 0 9\na 1\n\nb 1\n", 2)
        self.assert_no_text("desk 2 0 9\n\na 1\nb 1\n", 1)
        self.assert_no_text("desk 2 0 9\na 1\nb 1\n\n", 3)
        self.assert_no_text("desk 2 0 9\na 1\nb 1\n\n\n", 3)
        self.assert_no_text("desk 2 0 9\na 1\n\n\nb 1\n", 2)
        self.assert_no_text("desk 2 0 9\na 1\nb 1\n ", 3)

    def test_shown_lost_and_weight_that_do_not_go_together(self):
        self.assert_no_text("desk 1 0 4\na 5\n", 2)
        self.assert_no_text("desk 2 0 8\na 5\nb 4\n", 3)
        self.assert_no_text("desk 2 3 11\na 1\nb 2\n", 3)
        self.assert_no_text("desk 2 4 12\na 1\nb 2\n", 3)
        self.assert_no_text("desk 2 3 12\na 2\nb 2\n", 3)
        self.assert_no_text("desk 1 1 1\n", 1)
        self.assert_no_text("desk 1 1 0\n", 1)
        self.assert_no_text("desk 50 2 101\n", 1)
        self.assert_text("desk 50 2 102\n", 50, {}, 2, 102)
        self.assert_no_text("desk 2 0 0\na 1\n", 2)
        self.assert_no_text(f"desk 1 {MOST // 2 + 1} {MOST}\n", 1)
        self.assert_no_text(f"desk 1 {MOST} {MOST}\n", 1)
        self.assert_no_text(f"desk 2 0 {MOST}\na {MOST}\nb 1\n", 3)
        self.assert_no_text(f"desk 2 1 {MOST}\na {MOST - 4}\nb 2\n", 3)

    def test_several_faults_at_once(self):
        # The first row at fault, whatever its fault is.
        self.assert_no_text("desk 51 0 0\nA 1\n", 0)
        self.assert_no_text("desk 1 0 00\na 1\nb 1", 0)
        self.assert_no_text("desk 3 0 1\na 1\na 1\nB 1\n\n", 2)
        self.assert_no_text("desk 3 0 1\na 1\nB 1\na 1\n", 2)
        self.assert_no_text("desk 2 0 9\na 1\nb 1\nC 0\n", 3)
        self.assert_no_text("desk 2 0 9\na 0\nb 1\nc 1\n", 1)
        self.assert_no_text("desk 1 0 9\nb 1\na 1\nC 1\n", 2)
        # Rows at fault go ahead of the last line end and of the sum.
        self.assert_no_text("desk 3 0 9\nb 1\na 1", 2)
        self.assert_no_text("desk 1 0 9\na 1\nb 1", 2)
        self.assert_no_text("desk 3 0 9\na 1\nb ", 2)
        self.assert_no_text("desk 3 9 9\nb 1\na 1\nc 1\n", 2)
        self.assert_no_text("desk 1 9 9\na 1\nb 1\n", 2)
        self.assert_no_text("desk 1 9 9\nA 1\n", 1)
        self.assert_no_text("desk 3 9 9\na 1\nb 01\nc 1", 2)
        # No line end and a sum that is too great: the same number.
        self.assert_no_text("desk 1 9 9", 1)
        self.assert_no_text("desk 2 9 9\na 1\nb 1", 3)


class TestMadeTexts(TextCase):
    def check(self, text):
        row = fault(text)
        if row is None:
            self.assertEqual(written(read(text)), text)
        else:
            self.assert_no_text(text, row)
        return row

    def test_each_sign_changed_or_left_out(self):
        found = set()
        for text in ("desk 2 3 12\na 1\nb 2\n", "desk 3 0 60\nab 10\nb 20\nc 30\n",
                     "desk 11 10 900\na 9\nabcdefgh 100\nb 1\n", "desk 1 0 0\n"):
            for at in range(len(text) + 1):
                found.add(self.check(text[:at]))
                found.add(self.check(text[:at] + text[at + 1:]))
                for sign in "01239abz \n\t-+_A`{":
                    found.add(self.check(text[:at] + sign + text[at:]))
                    found.add(self.check(text[:at] + sign + text[at + 1:]))
        self.assertEqual(found, {None, 0, 1, 2, 3, 4})

    def test_made_rows(self):
        chance = Chance(4)
        found = {}
        for _ in range(3000):
            drawers = 1 + chance.below(4)
            head = f"desk {drawers} {chance.below(3)} {chance.below(40)}\n"
            if chance.below(20) == 0:
                head = chance.among(["", "desk 0 0 0\n", "desk 51 0 9\n", "desk 4 01 9\n"])
            names = ["a", "ab", "b", "desk", "z"][chance.below(3):]
            rows = [f"{name} {1 + chance.below(9)}\n" for name in names[:chance.below(5)]]
            for _ in range(chance.below(2)):
                rows.insert(chance.below(len(rows) + 1),
                            chance.among(["a 1\n", "b 2\n", "\n", "b 0\n", "c 01\n", "zz 3\n"]))
            text = head + "".join(rows)
            row = self.check(text[:-1] if chance.below(8) == 0 else text)
            found[row] = found.get(row, 0) + 1
        self.assertEqual(sorted(found, key=str), [0, 1, 2, 3, 4, 5, None])
        self.assertTrue(all(many > 10 for many in found.values()), found)


if __name__ == "__main__":
    unittest.main()
