"""The errors of the interface."""

import unittest

from labelgrid.errors import CommandError, EditError, EntryError, GridError


class ErrorsTest(unittest.TestCase):
    def test_base_class_is_a_value_error(self):
        self.assertTrue(issubclass(GridError, ValueError))
        for kind in (CommandError, EntryError, EditError):
            self.assertTrue(issubclass(kind, GridError))

    def test_attributes(self):
        self.assertEqual(CommandError(3).line, 3)
        self.assertEqual(EntryError(7).at, 7)
        self.assertEqual(EditError("cell").place, "cell")

    def test_messages_are_texts(self):
        self.assertIn("7", str(EntryError(7)))
        self.assertIn("cell", str(EditError("cell")))
        self.assertIn("3", str(CommandError(3)))


if __name__ == "__main__":
    unittest.main()
