"""Point 3, as far as one map goes: the first map is empty, and a map that was made never changes."""

import unittest

from helper import SMALL_NAMES, after, check_change, map_of
from eldermap.nodes import Node, branches_at, with_branch, with_value
from eldermap.trees import EMPTY, beginnings_of, changed, entries_of, nodes_of


class ElderMaps(unittest.TestCase):
    def test_the_first_map_is_empty_and_stays_so(self):
        root = EMPTY
        for name in SMALL_NAMES:
            root = changed(root, name, "x")[0]
        self.assertEqual(len(entries_of(root)), len(SMALL_NAMES))
        self.assertEqual((entries_of(EMPTY), nodes_of(EMPTY)), ([], []))

    def test_every_map_of_a_long_row_tells_the_same_at_the_end(self):
        root, entries, kept = EMPTY, {}, []
        for step in range(300):
            name = SMALL_NAMES[step * step % 7] + "abc"[:step % 4]
            value = None if step % 3 == 2 else str(step % 5)
            root = check_change(self, root, entries, name, value)
            entries = after(entries, name, value)
            kept.append((root, beginnings_of(root), nodes_of(root), sorted(entries.items())))
        for root, rows, pairs, listed in kept:
            self.assertEqual(beginnings_of(root), rows)
            self.assertEqual(nodes_of(root), pairs)
            self.assertEqual(entries_of(root), listed)

    def test_several_maps_made_of_one_know_nothing_of_each_other(self):
        base = map_of({"ab": "x", "b": "y"})
        one = changed(base, "ab", None)[0]
        two = changed(base, "abc", "z")[0]
        three = changed(base, "ab", "w")[0]
        self.assertEqual(entries_of(base), [("ab", "x"), ("b", "y")])
        self.assertEqual(entries_of(one), [("b", "y")])
        self.assertEqual(entries_of(two), [("ab", "x"), ("abc", "z"), ("b", "y")])
        self.assertEqual(entries_of(three), [("ab", "w"), ("b", "y")])

    def test_a_change_of_what_was_given_back_reaches_no_map(self):
        root = map_of({"ab": "x"})
        for told in (nodes_of(root), beginnings_of(root), entries_of(root)):
            told.clear()
        branches_at(root).clear()
        self.assertEqual(beginnings_of(root), [("", None, "a"), ("a", None, "b"), ("ab", "x", "")])


class ElderNodes(unittest.TestCase):
    def test_a_node_made_of_another_leaves_it_as_it_is(self):
        leaf = Node("x", {})
        node = Node("v", {"a": leaf})
        with_value(node, "w")
        with_value(node, None)
        with_branch(node, "b", Node("y", {}))
        with_branch(node, "a", Node("y", {}))
        with_branch(node, "a", None)
        self.assertEqual((node.value, node.branches), ("v", {"a": leaf}))
        self.assertEqual((leaf.value, leaf.branches), ("x", {}))

    def test_neither_value_nor_branch_is_no_node(self):
        node = Node(None, {"a": Node("x", {})})
        self.assertIs(with_branch(node, "a", None), None)
        self.assertIs(with_value(Node("x", {}), None), None)
        self.assertIs(with_value(None, None), None)
        self.assertEqual(with_value(Node("x", {}), "").value, "")


if __name__ == "__main__":
    unittest.main()
