"""Points 4, 5 and 7 for versions: how many nodes each deed makes, and the nodes of a version."""

import unittest

from helper import PlainDay, beginnings_told
from eldermap.day import answers, beginnings, difference, entries, work

EXAMPLE = [("put", 0, "ab", "x"), ("put", 1, "ac", "y"), ("take", 2, "ab")]


class TheExample(unittest.TestCase):
    def test_how_many_nodes_are_made(self):
        self.assertEqual(work(EXAMPLE), [3, 3, 2])

    def test_the_nodes_of_each_version(self):
        self.assertEqual(beginnings(EXAMPLE, 0), [])
        self.assertEqual(beginnings(EXAMPLE, 1), [("", None, "a"), ("a", None, "b"), ("ab", "x", "")])
        self.assertEqual(beginnings(EXAMPLE, 2), [("", None, "a"), ("a", None, "bc"), ("ab", "x", ""), ("ac", "y", "")])
        self.assertEqual(beginnings(EXAMPLE, 3), [("", None, "a"), ("a", None, "c"), ("ac", "y", "")])

    def test_all_other_nodes_are_shared(self):
        self.assertEqual(difference(EXAMPLE, 1, 2)[1], 3)
        self.assertEqual(difference(EXAMPLE, 2, 3)[1], 3)


class Work(unittest.TestCase):
    def test_a_deed_that_changes_nothing_makes_no_node(self):
        deeds = EXAMPLE + [("put", 2, "ab", "x"), ("take", 2, "a"), ("take", 2, "abc"), ("take", 0, ""),
                           ("take", 3, "ab")]
        self.assertEqual(answers(deeds), [1, 2, 3, 4, 5, 6, 7, 8])
        self.assertEqual(work(deeds)[3:], [0] * 5)
        for version, parent in ((4, 2), (5, 2), (6, 2), (7, 0), (8, 3)):
            self.assertEqual(difference(deeds, parent, version), ([], 0))
            self.assertEqual(beginnings(deeds, version), beginnings(deeds, parent))

    def test_a_deed_that_is_refused_makes_no_node(self):
        deeds = [("put", 1, "ab", "x"), ("put", 0, "aB", "x"), ("take", -1, "ab"), ("take", 0, "aB"), ("join", 0, 1, 0),
                 ("put", 0, "ab", "x"), ("put", 0, "ab", "y"), ("join", 0, 1, 2)]
        self.assertEqual(work(deeds), [0, 0, 0, 0, 0, 3, 3, 0])

    def test_the_same_deed_twice_makes_its_nodes_twice(self):
        self.assertEqual(work([("put", 0, "ab", "x"), ("put", 0, "ab", "x")]), [3, 3])

    def test_the_empty_name(self):
        deeds = [("put", 0, "", ""), ("put", 1, "a", "x"), ("take", 2, ""), ("take", 1, ""), ("take", 3, "a")]
        self.assertEqual(work(deeds), [1, 2, 1, 0, 0])
        self.assertEqual(beginnings(deeds, 2), [("", "", "a"), ("a", "x", "")])
        self.assertEqual(beginnings(deeds, 3), [("", None, "a"), ("a", "x", "")])
        self.assertEqual(beginnings(deeds, 4), [])

    def test_names_that_begin_with_one_another(self):
        deeds = [("put", 0, "abcd", "x"), ("put", 1, "ab", "y"), ("take", 2, "abcd"), ("take", 2, "ab"),
                 ("take", 3, "ab")]
        self.assertEqual(work(deeds), [5, 3, 3, 3, 0])


class WorkOfJoins(unittest.TestCase):
    def check_one_by_one(self, deeds, base, one, two, changes):
        """The join makes as many nodes as its changes make, each by a deed of its own."""
        joined = deeds + [("join", base, one, two)]
        count = answers(joined)[-1]
        version, single = one, list(deeds)
        for place, (name, value) in enumerate(changes):
            single.append(("take", version, name) if value is None else ("put", version, name, value))
            version = count + place
        self.assertEqual(work(joined)[-1], sum(work(single)[len(deeds):]))
        self.assertEqual(entries(joined, count), entries(single, version))
        self.assertEqual(beginnings(joined, count), beginnings(single, version))
        return work(joined)[-1]

    def test_two_changes_below_one_beginning(self):
        deeds = [("put", 0, "ab", "x"), ("put", 1, "ac", "y"), ("put", 0, "b", "z")]
        self.assertEqual(self.check_one_by_one(deeds, 0, 3, 2, [("ab", "x"), ("ac", "y")]), 6)

    def test_names_that_have_the_value_already_are_left_out(self):
        deeds = [("put", 0, "ab", "x"), ("put", 1, "ac", "y"), ("put", 0, "ab", "x"), ("put", 3, "b", "z")]
        self.assertEqual(self.check_one_by_one(deeds, 0, 4, 2, [("ac", "y")]), 3)

    def test_the_order_of_the_names_counts(self):
        deeds = [("put", 0, "ab", "x"), ("take", 1, "ab"), ("put", 2, "ac", "y")]
        # First ab goes, with all nodes; then ac comes. The other way round would make two nodes more.
        self.assertEqual(self.check_one_by_one(deeds, 1, 1, 3, [("ab", None), ("ac", "y")]), 3)
        deeds = [("put", 0, "ac", "x"), ("take", 1, "ac"), ("put", 2, "ab", "y")]
        self.assertEqual(self.check_one_by_one(deeds, 1, 1, 3, [("ab", "y"), ("ac", None)]), 5)

    def test_a_shorter_name_goes_ahead_of_those_that_it_begins(self):
        deeds = [("put", 0, "a", "x"), ("put", 1, "ab", "y"), ("put", 2, "b", "z"), ("put", 0, "", "e")]
        changes = [("", "e"), ("a", None), ("ab", None), ("b", None)]
        self.assertEqual(self.check_one_by_one(deeds, 3, 3, 4, changes), 1 + 2 + 1 + 1)

    def test_the_nodes_of_the_changes_are_new_and_all_others_those_of_one(self):
        deeds = [("put", 0, "ab", "x"), ("put", 1, "b", "y"), ("put", 1, "ac", "z"), ("join", 1, 2, 3)]
        self.assertEqual(work(deeds)[-1], 3)
        self.assertEqual(difference(deeds, 2, 4), ([("ac", None, "z")], 3))
        self.assertEqual(difference(deeds, 3, 4), ([("b", None, "y")], 4))


class Beginnings(unittest.TestCase):
    def test_the_version_nought_has_no_node_behind_whatever_deeds(self):
        for size in range(len(EXAMPLE) + 1):
            self.assertEqual(beginnings(EXAMPLE[:size], 0), [])

    def test_values_and_letters_in_order(self):
        names = ["z", "am", "a", "m", "az", "aa", "b", ""]
        deeds = [("put", version, name, name + "!") for version, name in enumerate(names)]
        self.assertEqual(beginnings(deeds, len(names)),
                         [("", "!", "abmz"), ("a", "a!", "amz"), ("aa", "aa!", ""), ("am", "am!", ""),
                          ("az", "az!", ""), ("b", "b!", ""), ("m", "m!", ""), ("z", "z!", "")])

    def test_a_list_of_tuples_of_three(self):
        rows = beginnings(EXAMPLE, 2)
        self.assertEqual((rows.__class__, {row.__class__ for row in rows}), (list, {tuple}))
        self.assertEqual({len(row) for row in rows}, {3})
        self.assertEqual({row[2].__class__ for row in rows}, {str})

    def test_every_version_has_just_the_nodes_of_its_beginnings(self):
        deeds = EXAMPLE + [("put", 3, "", "e"), ("put", 4, "acd", ""), ("take", 5, "ac"), ("join", 4, 2, 6),
                           ("take", 6, "acd"), ("take", 8, ""), ("join", 5, 5, 0)]
        day = PlainDay(deeds)
        self.assertEqual(answers(deeds)[-1], 10)
        for version, told in enumerate(day.maps):
            self.assertEqual(beginnings(deeds, version), beginnings_told(told))


if __name__ == "__main__":
    unittest.main()
