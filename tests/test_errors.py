import unittest

from eldermap.errors import MapError, NoName, NoVersion


class Errors(unittest.TestCase):
    def test_each_stands_straight_under_the_one_that_the_interface_says(self):
        self.assertEqual(MapError.__bases__, (ValueError,))
        self.assertEqual(NoVersion.__bases__, (MapError,))
        self.assertEqual(NoName.__bases__, (MapError,))

    def test_each_is_there_under_its_name(self):
        self.assertEqual([error.__name__ for error in (MapError, NoVersion, NoName)],
                         ["MapError", "NoVersion", "NoName"])

    def test_each_can_be_raised_and_taken_by_its_name_and_by_those_above(self):
        for error, above in ((MapError, ValueError), (NoVersion, MapError), (NoName, MapError)):
            for taken in (error, above, ValueError):
                with self.assertRaises(taken):
                    raise error("some words")

    def test_no_version_and_no_name_are_told_apart(self):
        self.assertFalse(issubclass(NoVersion, NoName))
        self.assertFalse(issubclass(NoName, NoVersion))


if __name__ == "__main__":
    unittest.main()
