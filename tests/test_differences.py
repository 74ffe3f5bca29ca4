"""Points 8, 9 and 10: what two versions differ in, and how many pairs of nodes are opened for it."""

import unittest

from helper import PlainDay, small_maps
from eldermap.day import answers, beginnings, difference, parents
from eldermap.differing import difference_of
from eldermap.nodes import Node
from eldermap.trees import EMPTY, changed

DEEDS = [("put", 0, "ab", "x"), ("put", 1, "ac", "y"), ("take", 2, "ab"), ("put", 2, "ab", ""), ("put", 0, "b", "z"),
         ("put", 4, "", "e"), ("join", 0, 6, 5), ("put", 1, "ab", "x"), ("take", 5, "b"), ("put", 3, "ab", "x")]


class Rows(unittest.TestCase):
    def test_given_taken_away_and_another_value(self):
        deeds = [("put", 0, "b", "1"), ("put", 1, "a", "2"), ("put", 2, "c", "3"),
                 ("put", 3, "b", "4"), ("take", 4, "a"), ("put", 5, "", "5"), ("put", 6, "ca", "6")]
        self.assertEqual(difference(deeds, 3, 7)[0],
                         [("", None, "5"), ("a", "2", None), ("b", "1", "4"), ("ca", None, "6")])
        self.assertEqual(difference(deeds, 7, 3)[0],
                         [("", "5", None), ("a", None, "2"), ("b", "4", "1"), ("ca", "6", None)])

    def test_the_empty_text_is_told_apart_from_no_value(self):
        deeds = [("put", 0, "a", ""), ("put", 1, "a", "x")]
        self.assertEqual(difference(deeds, 0, 1), ([("a", None, "")], 2))
        self.assertEqual(difference(deeds, 1, 0), ([("a", "", None)], 2))
        self.assertEqual(difference(deeds, 1, 2), ([("a", "", "x")], 2))

    def test_rows_come_in_the_order_of_texts(self):
        names = ["b", "", "zz", "ab", "a", "abc", "z", "aa", "ba"]
        deeds = [("put", version, name, "v") for version, name in enumerate(names)]
        self.assertEqual(difference(deeds, 0, 9)[0], [(name, None, "v") for name in sorted(names)])
        self.assertEqual(difference(deeds, 9, 0)[0], [(name, "v", None) for name in sorted(names)])

    def test_a_version_does_not_differ_from_itself(self):
        for version in range(len(DEEDS) + 1):
            self.assertEqual(difference(DEEDS, version, version), ([], 0))

    def test_a_tuple_of_a_list_of_tuples_and_a_whole_number(self):
        told = difference(DEEDS, 0, 7)
        self.assertEqual((told.__class__, len(told), told[0].__class__, told[1].__class__), (tuple, 2, list, int))
        self.assertEqual({row.__class__ for row in told[0]}, {tuple})


class AnyTwoVersions(unittest.TestCase):
    def test_all_pairs_of_a_day(self):
        day = PlainDay(DEEDS)
        self.assertEqual(answers(DEEDS), list(range(1, len(DEEDS) + 1)))
        for one in range(len(day.maps)):
            for two in range(len(day.maps)):
                self.assertEqual(difference(DEEDS, one, two), day.difference(one, two), (one, two))

    def test_either_way_round(self):
        for one in range(len(DEEDS) + 1):
            for two in range(len(DEEDS) + 1):
                rows, opened = difference(DEEDS, one, two)
                turned = [(name, new, old) for name, old, new in rows]
                self.assertEqual(difference(DEEDS, two, one), (turned, opened))

    def test_all_pairs_of_small_maps(self):
        maps = small_maps()[::3]
        for old in maps:
            deeds = [("put", version, name, old[name]) for version, name in enumerate(old)]
            for new in maps:
                more = [("take", len(old) + place, name) for place, name in enumerate(old) if name not in new]
                count = len(old) + len(more)
                more += [("put", count + place, name, new[name] + "!") for place, name in enumerate(new)]
                day = PlainDay(deeds + more)
                told = difference(deeds + more, len(old), len(day.maps) - 1)
                self.assertEqual(told, day.difference(len(old), len(day.maps) - 1))


class PairsOpened(unittest.TestCase):
    def test_against_the_empty_map_all_nodes_are_opened(self):
        for version in range(len(DEEDS) + 1):
            count = len(beginnings(DEEDS, version))
            self.assertEqual(difference(DEEDS, 0, version)[1], count)
            self.assertEqual(difference(DEEDS, version, 0)[1], count)

    def test_two_empty_maps_have_nothing_to_open(self):
        deeds = [("put", 0, "ab", "x"), ("take", 1, "ab"), ("take", 0, "b"), ("take", 2, "")]
        for one in (0, 2, 3, 4):
            for two in (0, 2, 3, 4):
                self.assertEqual(difference(deeds, one, two), ([], 0))

    def test_maps_that_are_alike_but_have_not_the_same_nodes(self):
        deeds = [("put", 0, "ab", "x"), ("put", 1, "b", "k"), ("put", 2, "ac", "y"), ("take", 3, "ac")]
        self.assertEqual(beginnings(deeds, 2), beginnings(deeds, 4))
        self.assertEqual(difference(deeds, 2, 4), ([], 2))
        deeds = [("put", 0, "ab", "x"), ("put", 1, "ab", "y"), ("put", 2, "ab", "x"), ("put", 0, "ab", "x")]
        for one, two in ((1, 3), (1, 4), (3, 4)):
            self.assertEqual(difference(deeds, one, two), ([], 3))
            self.assertEqual(difference(deeds, two, one), ([], 3))

    def test_a_value_taken_away_and_given_again(self):
        deeds = [("put", 0, "abc", "x"), ("put", 1, "b", "k"), ("take", 2, "abc"), ("put", 3, "abc", "x")]
        self.assertEqual(difference(deeds, 2, 4), ([], 4))
        self.assertEqual(difference(deeds, 1, 4), ([("b", None, "k")], 5))

    def test_what_is_shared_is_not_opened_whatever_lies_behind_it(self):
        deeds = [("put", version, "a" + letter, "v") for version, letter in enumerate("abcdefghijklmnopqrstuvwxyz")]
        deeds += [("put", 26, "b", "w"), ("put", 27, "bc", "w")]
        self.assertEqual(difference(deeds, 26, 28), ([("b", None, "w"), ("bc", None, "w")], 3))

    def test_nodes_on_either_side_alone_are_opened_too(self):
        deeds = [("put", 0, "abcd", "x"), ("put", 0, "xyz", "y"), ("put", 1, "abxy", "z")]
        self.assertEqual(difference(deeds, 1, 2)[1], 1 + 4 + 3)
        self.assertEqual(difference(deeds, 1, 3)[1], 5)
        self.assertEqual(difference(deeds, 2, 3)[1], 1 + 4 + 2 + 3)

    def test_a_join_shares_the_nodes_of_one_and_none_of_those_of_two(self):
        deeds = [("put", 0, "ab", "x"), ("put", 0, "b", "y"), ("join", 0, 1, 2), ("join", 0, 2, 1)]
        self.assertEqual(difference(deeds, 1, 3), ([("b", None, "y")], 2))
        self.assertEqual(difference(deeds, 2, 3), ([("ab", None, "x")], 4))
        self.assertEqual(difference(deeds, 3, 4), ([], 4))

    def test_nothing_behind_a_shared_node_is_looked_at(self):
        shared = Node("s", {"n": "never walked"})
        one = Node(None, {"a": shared, "b": Node("x", {})})
        two = Node(None, {"a": shared, "b": Node("y", {})})
        self.assertEqual(difference_of(one, two), ([("b", "x", "y")], 2))
        self.assertEqual(difference_of(shared, shared), ([], 0))


class AVersionAndItsParent(unittest.TestCase):
    def test_as_many_pairs_as_the_name_has_signs_and_one_more(self):
        day = PlainDay(DEEDS)
        for deed, version, made in zip(DEEDS, answers(DEEDS), day.work):
            parent = parents(DEEDS)[version]
            if deed[0] == "join":
                continue
            rows, opened = difference(DEEDS, parent, version)
            old, new = day.maps[parent].get(deed[2]), day.maps[version].get(deed[2])
            if old == new:
                self.assertEqual((rows, opened, made), ([], 0, 0))
            else:
                self.assertEqual((rows, opened), ([(deed[2], old, new)], len(deed[2]) + 1))

    def test_every_length_of_name_put_and_taken(self):
        for size in (0, 1, 2, 30, 100, 130):
            name = "q" * size
            deeds = [("put", 0, name, "x"), ("put", 1, name, "y"), ("take", 2, name), ("put", 1, "qr", "z"),
                     ("take", 4, name)]
            self.assertEqual(difference(deeds, 0, 1), ([(name, None, "x")], size + 1))
            self.assertEqual(difference(deeds, 1, 2), ([(name, "x", "y")], size + 1))
            self.assertEqual(difference(deeds, 2, 3), ([(name, "y", None)], size + 1))
            self.assertEqual(difference(deeds, 4, 5), ([(name, "x", None)], size + 1))

    def test_a_name_far_longer_than_calls_may_be_deep(self):
        root = changed(EMPTY, "ab" * 1500, "x")[0]
        self.assertEqual(difference_of(EMPTY, root), ([("ab" * 1500, None, "x")], 3001))


if __name__ == "__main__":
    unittest.main()
