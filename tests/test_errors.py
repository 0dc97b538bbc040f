"""The interface: the classes of borrowdesk/errors.py."""

import unittest

from borrowdesk.errors import DeskError, Narrow, NoBlock, NoEnd, NoRow, NoWord, Taken

KINDS = (NoRow, NoBlock, NoWord, Taken, Narrow, NoEnd)


class TheClasses(unittest.TestCase):
    def test_a_desk_error_is_a_value_error(self):
        self.assertTrue(issubclass(DeskError, ValueError))

    def test_each_is_a_desk_error_and_a_value_error(self):
        for kind in KINDS:
            with self.subTest(kind=kind.__name__):
                self.assertIsInstance(kind(3), DeskError)
                self.assertIsInstance(kind(3), ValueError)
                self.assertEqual(kind.__bases__, (DeskError,))

    def test_each_is_none_of_the_others(self):
        for kind in KINDS:
            self.assertNotEqual(kind, DeskError)
            for other in KINDS:
                if other is not kind:
                    with self.subTest(kind=kind.__name__, other=other.__name__):
                        self.assertNotIsInstance(kind(3), other)

    def test_each_bears_the_number_of_the_row(self):
        for kind in (DeskError,) + KINDS:
            for number in (0, 1, 7, 250):
                with self.subTest(kind=kind.__name__, number=number):
                    self.assertEqual(kind(number).at, number)
                    self.assertIs(type(kind(number).at), int)

    def test_each_is_defined_in_the_file_that_the_interface_names(self):
        for kind in (DeskError,) + KINDS:
            self.assertEqual(kind.__module__, "borrowdesk.errors")


if __name__ == "__main__":
    unittest.main()
