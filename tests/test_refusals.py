"""The interface's refusals: NoVersion by whatever takes versions, then NoName by what takes a name."""

import unittest

from helper import NO_NAMES, numbers_of_none
from eldermap.day import beginnings, difference, entries, value
from eldermap.errors import MapError, NoName, NoVersion
from eldermap.notes import back_to, leading

# One deed is refused and one clashes: there are four versions and five deeds.
DEEDS = [("put", 0, "ab", "x"), ("put", 0, "A", "y"), ("put", 0, "ab", ""), ("join", 0, 1, 2), ("take", 1, "ab")]


class NoSuchVersion(unittest.TestCase):
    def check(self, deeds, count):
        for number in numbers_of_none(count) + [-3, count + 2, 10 ** 5000]:
            calls = [(entries, number), (beginnings, number), (value, number, "ab"), (back_to, number, 0),
                     (back_to, number, 1), (back_to, number, 1000)]
            for version in range(count):
                calls += [(difference, number, version), (difference, version, number),
                          (leading, number, version), (leading, version, number)]
            calls += [(difference, number, number), (leading, number, number)]
            for asked, *rest in calls:
                self.assertRaises(NoVersion, asked, deeds, *rest)
                self.assertRaises(MapError, asked, deeds, *rest)

    def test_in_a_day_without_deeds(self):
        self.check([], 1)

    def test_behind_deeds(self):
        self.check(DEEDS[:1], 2)
        self.check(DEEDS, 4)

    def test_what_the_deeds_were_refused_is_no_version(self):
        self.assertRaises(NoVersion, entries, [("put", 1, "a", "x")], 1)
        self.assertRaises(NoVersion, entries, [("put", 0, "A", "x")], 1)
        self.assertRaises(NoVersion, entries, DEEDS[:4], 3)

    def test_a_version_made_by_the_last_deed_is_one(self):
        self.assertEqual(entries(DEEDS, 3), [])
        self.assertEqual(beginnings(DEEDS, 3), [])
        self.assertIs(value(DEEDS, 3, "ab"), None)
        self.assertEqual(difference(DEEDS, 3, 3), ([], 0))
        self.assertEqual(leading(DEEDS, 3, 3), [])
        self.assertEqual(back_to(DEEDS, 3, 0), 3)


class NoSuchName(unittest.TestCase):
    def test_by_value_where_the_version_is_one(self):
        for text in NO_NAMES:
            for version in range(4):
                self.assertRaises(NoName, value, DEEDS, version, text)
                self.assertRaises(MapError, value, DEEDS, version, text)

    def test_no_version_goes_ahead(self):
        for text in NO_NAMES:
            for number in numbers_of_none(4):
                self.assertRaises(NoVersion, value, DEEDS, number, text)


class Value(unittest.TestCase):
    def test_the_value_or_none(self):
        self.assertEqual([value(DEEDS, version, "ab") for version in range(4)], [None, "x", "", None])
        for name in ["", "a", "abc", "b", "q" * 130]:
            for version in range(4):
                self.assertIs(value(DEEDS, version, name), None)

    def test_every_name_of_a_version(self):
        names = ["", "a", "ab", "abc", "b", "z"]
        deeds = [("put", version, name, name + "!") for version, name in enumerate(names)]
        for version in range(len(names) + 1):
            told = [value(deeds, version, name) for name in names]
            self.assertEqual(told, [name + "!" for name in names[:version]] + [None] * (len(names) - version))


class Entries(unittest.TestCase):
    def test_a_list_of_pairs_in_the_order_of_texts(self):
        names = ["b", "", "zz", "ab", "a", "abc", "z", "aa", "ba"]
        deeds = [("put", version, name, name + "!") for version, name in enumerate(names)]
        told = entries(deeds, len(names))
        self.assertEqual(told, [(name, name + "!") for name in sorted(names)])
        self.assertEqual((told.__class__, {pair.__class__ for pair in told}), (list, {tuple}))


if __name__ == "__main__":
    unittest.main()
