"""Point 5: which nodes a change makes, and which it shares."""

import unittest

from helper import SMALL_NAMES, check_change, map_of, nodes_by_beginning, small_maps
from eldermap.trees import EMPTY, beginnings_of, changed


class TheExample(unittest.TestCase):
    def test_put_put_take(self):
        first, made = changed(EMPTY, "ab", "x")
        self.assertEqual(made, 3)
        self.assertEqual(beginnings_of(first), [("", None, "a"), ("a", None, "b"), ("ab", "x", "")])
        second, made = changed(first, "ac", "y")
        self.assertEqual(made, 3)
        third, made = changed(second, "ab", None)
        self.assertEqual(made, 2)

        one, two, three = [nodes_by_beginning(root) for root in (first, second, third)]
        self.assertEqual(list(two), ["", "a", "ab", "ac"])
        self.assertEqual(list(three), ["", "a", "ac"])
        self.assertIs(two["ab"], one["ab"])
        self.assertIs(three["ac"], two["ac"])
        for text in ["", "a"]:
            self.assertIsNot(two[text], one[text])
            self.assertIsNot(three[text], two[text])


class Changes(unittest.TestCase):
    def made(self, entries, name, value):
        root = map_of(entries)
        check_change(self, root, entries, name, value)
        return changed(root, name, value)[1]

    def test_a_name_that_is_the_beginning_of_another(self):
        self.assertEqual(self.made({"abcd": "x"}, "ab", "y"), 3)
        self.assertEqual(self.made({"abcd": "x", "ab": "y"}, "ab", None), 3)

    def test_a_name_that_goes_on_behind_another(self):
        self.assertEqual(self.made({"ab": "x"}, "abcd", "y"), 5)
        self.assertEqual(self.made({"ab": "x", "abcd": "y"}, "abcd", None), 3)

    def test_taking_stops_at_a_beginning_that_leads_elsewhere(self):
        self.assertEqual(self.made({"abcd": "x", "abx": "y"}, "abcd", None), 3)
        self.assertEqual(self.made({"abcd": "x", "z": "y"}, "abcd", None), 1)

    def test_the_empty_name(self):
        self.assertEqual(self.made({}, "", "x"), 1)
        self.assertEqual(self.made({"": "x"}, "", "y"), 1)
        self.assertEqual(self.made({"": "x"}, "", None), 0)
        self.assertEqual(self.made({"ab": "x"}, "", "y"), 1)
        self.assertEqual(self.made({"ab": "x", "": "y"}, "", None), 1)
        self.assertEqual(self.made({"": "x"}, "ab", "y"), 3)
        self.assertEqual(self.made({"": "x", "ab": "y"}, "ab", None), 1)

    def test_another_value_for_a_name(self):
        self.assertEqual(self.made({"abc": "x", "b": "y"}, "abc", "z"), 4)

    def test_the_value_that_a_name_has_already_makes_no_node(self):
        for name in ["", "a", "ab", "b"]:
            for value in ["", "x"]:
                entries = {"": value, "a": value, "ab": value, "b": value}
                root = map_of(entries)
                same, made = changed(root, name, "".join(list(value)))
                self.assertEqual(made, 0)
                self.assertIs(same, root)

    def test_taking_away_a_name_without_a_value_makes_no_node(self):
        for root in (EMPTY, map_of({"ab": "x", "abcd": "y"})):
            for name in ["", "a", "abc", "abcde", "b", "q" * 130]:
                same, made = changed(root, name, None)
                self.assertEqual(made, 0)
                self.assertIs(same, root)

    def test_nodes_that_tell_the_same_are_not_made_one(self):
        first = changed(EMPTY, "ab", "x")[0]
        second = changed(changed(first, "ab", "y")[0], "ab", "x")[0]
        self.assertEqual(beginnings_of(first), beginnings_of(second))
        one, two = nodes_by_beginning(first), nodes_by_beginning(second)
        for text in ["", "a", "ab"]:
            self.assertIsNot(one[text], two[text])
            self.assertNotEqual(one[text], two[text])

    def test_every_change_of_every_small_map(self):
        for entries in small_maps():
            root = map_of(entries)
            for name in SMALL_NAMES + ["aab", "bbb", "c", "ac"]:
                for value in (None, "", "new", name[::-1]):
                    check_change(self, root, entries, name, value)


if __name__ == "__main__":
    unittest.main()
