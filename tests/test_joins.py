"""Point 7: joining, its clashes, and the version that it makes."""

import itertools
import unittest

from helper import PlainDay
from eldermap.day import answers, beginnings, difference, entries, parents, work
from eldermap.differing import rows_to_join
from eldermap.nodes import Node
from eldermap.trees import EMPTY

VALUES = [None, "", "x", "y"]


def put_or_take(version, name, value):
    return ("take", version, name) if value is None else ("put", version, name, value)


def three_of(base, one, two):
    """Deeds that make of 0 three versions with these maps, and their numbers; each of the three stands on its own."""
    deeds, numbers, count = [], [], 0
    for entries_wanted in (base, one, two):
        version = 0
        for name, value in entries_wanted.items():
            deeds.append(("put", version, name, value))
            count += 1
            version = count
        numbers.append(version)
    return deeds, numbers


def joined(base, one, two):
    """The answer of a join of such maps, or the entries of what it makes."""
    deeds, numbers = three_of(base, one, two)
    deeds = deeds + [("join", *numbers)]
    answer = answers(deeds)[-1]
    return answer if isinstance(answer, tuple) else entries(deeds, answer)


class Clashes(unittest.TestCase):
    def test_one_name(self):
        self.assertEqual(joined({"a": "0"}, {"a": "1"}, {"a": "2"}), ("clash", [("a", "0", "1", "2")]))

    def test_no_value_in_the_base_in_one_or_in_two(self):
        self.assertEqual(joined({}, {"a": "1"}, {"a": "2"}), ("clash", [("a", None, "1", "2")]))
        self.assertEqual(joined({"a": "0"}, {}, {"a": "2"}), ("clash", [("a", "0", None, "2")]))
        self.assertEqual(joined({"a": "0"}, {"a": "1"}, {}), ("clash", [("a", "0", "1", None)]))

    def test_the_empty_text_is_told_apart_from_no_value(self):
        self.assertEqual(joined({}, {"a": ""}, {"a": "2"}), ("clash", [("a", None, "", "2")]))
        self.assertEqual(joined({"a": ""}, {}, {"a": "2"}), ("clash", [("a", "", None, "2")]))
        self.assertEqual(joined({"a": "0"}, {"a": ""}, {}), ("clash", [("a", "0", "", None)]))
        self.assertEqual(joined({"a": "0"}, {}, {"a": ""}), ("clash", [("a", "0", None, "")]))
        self.assertEqual(joined({}, {}, {"a": ""}), [("a", "")])
        self.assertEqual(joined({"a": ""}, {"a": ""}, {}), [])
        self.assertEqual(joined({"a": ""}, {}, {"a": ""}), [])

    def test_all_clashes_are_told_in_order_and_nothing_else(self):
        base = {"b": "0", "ab": "0", "kept": "k", "one": "0", "two": "0", "both": "0", "z": "0"}
        one = {"b": "1", "ab": "1", "kept": "k", "one": "1", "two": "0", "both": "3", "": "1", "abc": "1"}
        two = {"b": "2", "kept": "k", "one": "0", "two": "2", "both": "3", "": "2", "z": "2", "abc": "2"}
        self.assertEqual(joined(base, one, two), ("clash", [
            ("", None, "1", "2"), ("ab", "0", "1", None), ("abc", None, "1", "2"), ("b", "0", "1", "2"),
            ("z", "0", None, "2")]))

    def test_a_clash_makes_no_version_and_no_node(self):
        deeds = [("put", 0, "a", "x"), ("put", 0, "a", "y"), ("put", 2, "b", "z"), ("join", 0, 1, 3), ("take", 1, "a")]
        self.assertEqual(answers(deeds), [1, 2, 3, ("clash", [("a", None, "x", "y")]), 4])
        self.assertEqual(parents(deeds), [None, 0, 0, 2, 1])
        self.assertEqual(work(deeds)[3], 0)

    def test_the_rows_are_a_list_of_tuples_within_a_tuple(self):
        answer = joined({}, {"a": "1", "b": "1"}, {"a": "2", "b": "2"})
        self.assertEqual((answer.__class__, answer[1].__class__), (tuple, list))
        self.assertEqual([row.__class__ for row in answer[1]], [tuple, tuple])

    def test_both_changed_to_the_same_value_is_no_clash(self):
        self.assertEqual(joined({"a": "0"}, {"a": "1"}, {"a": "1"}), [("a", "1")])
        self.assertEqual(joined({}, {"a": ""}, {"a": ""}), [("a", "")])
        self.assertEqual(joined({"a": "0", "b": "0"}, {"b": "0"}, {"b": "0"}), [("b", "0")])


class EachNameByItself(unittest.TestCase):
    def test_every_choice_of_values_for_one_name(self):
        for name in ("", "ab"):
            for old, here, there in itertools.product(VALUES, repeat=3):
                deeds = [put_or_take(0, name, value) for value in (old, here, there)] + [("join", 1, 2, 3)]
                if here != old and there != old and here != there:
                    self.assertEqual(answers(deeds)[3], ("clash", [(name, old, here, there)]))
                    continue
                value = there if there != old else here
                self.assertEqual(answers(deeds)[3], 4)
                self.assertEqual(entries(deeds, 4), [] if value is None else [(name, value)])

    def test_every_choice_of_values_for_two_names_of_which_one_begins_the_other(self):
        choices = list(itertools.product([None, "", "x"], repeat=2))
        for maps in itertools.product(choices, repeat=3):
            maps = [{name: value for name, value in zip(("a", "ab"), pair) if value is not None} for pair in maps]
            deeds, numbers = three_of(*maps)
            deeds.append(("join", *numbers))
            plain = PlainDay(deeds)
            self.assertEqual(answers(deeds), plain.answers)
            self.assertEqual(work(deeds), plain.work)
            self.assertEqual(entries(deeds, len(plain.maps) - 1), sorted(plain.maps[-1].items()))


class WhatAJoinMakes(unittest.TestCase):
    DEEDS = [("put", 0, "a", "0"), ("put", 1, "b", "0"), ("put", 2, "c", "0"),
             ("put", 3, "a", "1"), ("take", 4, "b"), ("put", 3, "c", "2"), ("put", 6, "cd", "2")]

    def test_the_changes_of_both(self):
        deeds = self.DEEDS + [("join", 3, 5, 7)]
        self.assertEqual(answers(deeds)[-1], 8)
        self.assertEqual(entries(deeds, 8), [("a", "1"), ("c", "2"), ("cd", "2")])
        self.assertEqual(entries(deeds, 5), [("a", "1"), ("c", "0")])
        self.assertEqual(entries(deeds, 7), [("a", "0"), ("b", "0"), ("c", "2"), ("cd", "2")])

    def test_its_parent_is_one_and_neither_base_nor_two(self):
        deeds = self.DEEDS + [("join", 3, 5, 7), ("join", 3, 7, 5), ("join", 0, 0, 7), ("join", 7, 3, 3)]
        self.assertEqual(parents(deeds)[8:], [5, 7, 0, 3])

    def test_a_name_taken_away_in_two_is_taken_away(self):
        deeds = self.DEEDS + [("join", 3, 7, 5)]
        self.assertEqual(entries(deeds, 8), [("a", "1"), ("c", "2"), ("cd", "2")])
        deeds = [("put", 0, "ab", "x"), ("take", 1, "ab"), ("join", 1, 1, 2)]
        self.assertEqual((entries(deeds, 3), beginnings(deeds, 3)), ([], []))

    def test_versions_of_which_none_is_made_of_another(self):
        deeds, numbers = three_of({"a": "0", "b": "0"}, {"a": "0", "b": "0", "c": "1"}, {"b": "0", "ad": "2"})
        deeds.append(("join", *numbers))
        self.assertEqual(entries(deeds, len(deeds)), [("ad", "2"), ("b", "0"), ("c", "1")])

    def test_a_base_that_is_made_of_one_undoes_what_lies_between(self):
        deeds = [("put", 0, "a", "0"), ("put", 1, "b", "1"), ("put", 1, "c", "2"), ("join", 2, 3, 1)]
        self.assertEqual(entries(deeds, 4), [("a", "0"), ("c", "2")])
        deeds = deeds + [("join", 2, 2, 0)]
        self.assertEqual(entries(deeds, 5), [])
        self.assertEqual(parents(deeds)[5], 2)

    def test_a_join_of_joins(self):
        deeds = [("put", 0, "a", "1"), ("put", 0, "b", "2"), ("put", 0, "c", "3"),
                 ("join", 0, 1, 2), ("join", 0, 2, 3), ("join", 2, 4, 5)]
        self.assertEqual(answers(deeds), [1, 2, 3, 4, 5, 6])
        self.assertEqual(entries(deeds, 6), [("a", "1"), ("b", "2"), ("c", "3")])


class TheSameVersionInSeveralPlaces(unittest.TestCase):
    DEEDS = [("put", 0, "a", "0"), ("put", 1, "ab", "1"), ("take", 1, "a"), ("put", 3, "ab", "2")]

    def check(self, base, one, two, told, nodes):
        deeds = self.DEEDS + [("join", base, one, two)]
        self.assertEqual(answers(deeds)[-1], 5)
        self.assertEqual(entries(deeds, 5), entries(deeds, told))
        self.assertEqual(parents(deeds)[5], one)
        self.assertEqual(work(deeds)[-1], nodes)

    def test_all_three(self):
        for version in range(5):
            self.check(version, version, version, version, 0)

    def test_base_and_two_leave_one_as_it_is(self):
        for one in range(5):
            for version in range(5):
                self.check(version, one, version, one, 0)

    def test_one_and_two(self):
        for base in range(5):
            for version in range(5):
                self.check(base, version, version, version, 0)

    def test_base_and_one_lead_to_the_map_of_two(self):
        for version in range(5):
            for two in range(5):
                deeds = self.DEEDS + [("join", version, version, two)]
                self.check(version, version, two, two, work(deeds)[-1])

    def test_a_join_that_changes_nothing_has_all_nodes_of_one(self):
        for places in ((2, 2, 2), (1, 2, 1), (4, 2, 2), (0, 2, 0), (0, 2, 1)):
            deeds = self.DEEDS + [("join", *places)]
            self.assertEqual(answers(deeds)[-1], 5)
            self.assertEqual(work(deeds)[-1], 0)
            self.assertEqual(difference(deeds, 2, 5), ([], 0))
            self.assertEqual(parents(deeds)[5], 2)


class WhatIsLookedAt(unittest.TestCase):
    def test_nothing_behind_a_node_that_two_shares_with_base_or_with_one(self):
        shared = Node("s", {"n": "never walked"})
        other = Node("o", {})
        self.assertEqual(rows_to_join(shared, other, shared), [])
        self.assertEqual(rows_to_join(other, shared, shared), [])
        self.assertEqual(rows_to_join(EMPTY, shared, EMPTY), [])
        self.assertEqual(rows_to_join(shared, EMPTY, EMPTY), [])
        base = Node(None, {"a": shared, "b": other, "c": shared})
        one = Node(None, {"a": other, "b": shared})
        two = Node("t", {"a": shared, "b": shared})
        self.assertEqual(rows_to_join(base, one, two), [("", None, None, "t")])


class TheOtherWayRound(unittest.TestCase):
    def test_the_same_names_and_values_or_a_clash_in_the_same_names(self):
        choices = [{}, {"a": "x"}, {"a": "y"}, {"ab": "x"}, {"a": "x", "ab": ""}, {"a": "", "b": "x"},
                   {"": "x", "b": "y"}]
        clashed, made = 0, 0
        for maps in itertools.product(choices, repeat=3):
            deeds, (base, one, two) = three_of(*maps)
            first = deeds + [("join", base, one, two)]
            second = deeds + [("join", base, two, one)]
            here, there = answers(first)[-1], answers(second)[-1]
            if isinstance(here, tuple):
                clashed += 1
                self.assertEqual(there, ("clash", [(name, old, b, a) for name, old, a, b in here[1]]))
            else:
                made += 1
                self.assertEqual(here, there)
                self.assertEqual(entries(first, here), entries(second, there))
                self.assertEqual(beginnings(first, here), beginnings(second, there))
        self.assertGreater(min(clashed, made), 50)


if __name__ == "__main__":
    unittest.main()
