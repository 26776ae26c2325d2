"""The interface of errors.py."""

import unittest

from drawerdesk.errors import (
    DrawerError, NoDesk, NoMatch, NoName, NoPiece, NoText, NoWeight,
)

ERRORS = (NoName, NoWeight, NoDesk, NoMatch, NoPiece, NoText)


class TestErrors(unittest.TestCase):
    def test_every_refusal_is_a_drawer_error_and_a_value_error(self):
        self.assertTrue(issubclass(DrawerError, ValueError))
        for error in ERRORS:
            self.assertTrue(issubclass(error, DrawerError))
            self.assertIsNot(error, DrawerError)

    def test_none_is_below_another(self):
        for one in ERRORS:
            self.assertEqual([other for other in ERRORS if issubclass(one, other)], [one])

    def test_they_stand_in_their_file_under_their_names(self):
        names = [error.__name__ for error in (DrawerError, *ERRORS)]
        self.assertEqual(names, ["DrawerError", "NoName", "NoWeight", "NoDesk", "NoMatch",
                                 "NoPiece", "NoText"])
        for error in (DrawerError, *ERRORS):
            self.assertEqual(error.__module__, "drawerdesk.errors")

    def test_no_text_has_its_row(self):
        for row in (0, 1, 50):
            self.assertEqual(NoText(row).row, row)
            self.assertEqual(NoText(row=row).row, row)
            with self.assertRaises(DrawerError) as caught:
                raise NoText(row)
            self.assertEqual(caught.exception.row, row)


if __name__ == "__main__":
    unittest.main()
