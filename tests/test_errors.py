import unittest

from marshyear.errors import MarshError, NoDate


class Errors(unittest.TestCase):
    def test_marsh_error_is_a_value_error(self):
        self.assertEqual(MarshError.__bases__, (ValueError,))

    def test_no_date_is_a_marsh_error(self):
        self.assertEqual(NoDate.__bases__, (MarshError,))

    def test_no_date_is_taken_as_each_of_its_bases(self):
        for base in (NoDate, MarshError, ValueError):
            with self.assertRaises(base):
                raise NoDate("1.12.1")

    def test_marsh_error_is_not_taken_as_no_date(self):
        self.assertFalse(isinstance(MarshError("any"), NoDate))
