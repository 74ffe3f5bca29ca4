"""Point 4: one node for each beginning, with its value and the letters that lead on."""

import unittest

from helper import beginnings_told, map_of, small_maps
from eldermap.trees import EMPTY, beginnings_of, changed, entries_of, nodes_of, value_of


class Beginnings(unittest.TestCase):
    def test_the_empty_map_has_no_node(self):
        self.assertEqual(nodes_of(EMPTY), [])
        self.assertEqual(beginnings_of(EMPTY), [])
        self.assertEqual(entries_of(EMPTY), [])

    def test_the_empty_name_alone_has_one_node(self):
        self.assertEqual(beginnings_of(map_of({"": "x"})), [("", "x", "")])

    def test_one_name(self):
        self.assertEqual(beginnings_of(map_of({"cab": "x"})),
                         [("", None, "c"), ("c", None, "a"), ("ca", None, "b"), ("cab", "x", "")])

    def test_names_that_begin_with_one_another(self):
        self.assertEqual(beginnings_of(map_of({"abc": "3", "": "0", "a": "1"})),
                         [("", "0", "a"), ("a", "1", "b"), ("ab", None, "c"), ("abc", "3", "")])

    def test_letters_come_in_the_order_of_the_alphabet(self):
        entries = {name: "v" for name in ["z", "am", "a", "m", "az", "aa", "b"]}
        self.assertEqual(beginnings_of(map_of(entries)),
                         [("", None, "abmz"), ("a", "v", "amz"), ("aa", "v", ""), ("am", "v", ""),
                          ("az", "v", ""), ("b", "v", ""), ("m", "v", ""), ("z", "v", "")])

    def test_all_letters_lead_on(self):
        alphabet = "abcdefghijklmnopqrstuvwxyz"
        rows = beginnings_of(map_of({letter: "v" for letter in alphabet[::-1]}))
        self.assertEqual(rows, [("", None, alphabet)] + [(letter, "v", "") for letter in alphabet])

    def test_a_map_whose_last_name_was_taken_away_has_no_node(self):
        for name in ["", "a", "ab", "abc", "q" * 130]:
            for value in ["", "x"]:
                root, made = changed(map_of({name: value}), name, None)
                self.assertEqual((nodes_of(root), made), ([], 0), name)
                self.assertEqual(root, EMPTY)

    def test_a_map_emptied_name_by_name_has_no_node(self):
        root = map_of({"a": "1", "abc": "2", "b": "3", "": "4"})
        for name in ["a", "", "abc", "b"]:
            root = changed(root, name, None)[0]
        self.assertEqual(beginnings_of(root), [])

    def test_every_small_map_has_just_its_beginnings_in_whatever_order_it_was_made(self):
        for entries in small_maps():
            backwards = dict(sorted(entries.items(), reverse=True))
            for root in (map_of(entries), map_of(backwards)):
                self.assertEqual(beginnings_of(root), beginnings_told(entries))
                self.assertEqual(entries_of(root), sorted(entries.items()))
                for name, value in entries.items():
                    self.assertEqual(value_of(root, name), value)


if __name__ == "__main__":
    unittest.main()
