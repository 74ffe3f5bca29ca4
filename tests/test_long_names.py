"""Names of a hundred signs and of more, alike but for one sign at any place; long values."""

import unittest

from helper import check_change, map_of
from eldermap.trees import EMPTY, beginnings_of, changed, entries_of, value_of


def with_other_sign(name, place):
    return name[:place] + "z" + name[place + 1:]


class LongNames(unittest.TestCase):
    def test_two_names_alike_but_for_one_sign(self):
        for size in (99, 100, 101, 130):
            name = ("abcdefghij" * 13)[:size]
            root = changed(EMPTY, name, "x")[0]
            for place in range(size):
                other = with_other_sign(name, place)
                both = check_change(self, root, {name: "x"}, other, "y")
                self.assertEqual(changed(root, other, "y")[1], size + 1)
                self.assertEqual(len(beginnings_of(both)), 2 * size + 1 - place)
                self.assertEqual((value_of(both, name), value_of(both, other)), ("x", "y"))
                rest, made = changed(both, name, None)
                self.assertEqual((made, entries_of(rest)), (place + 1, [(other, "y")]))

    def test_all_of_them_in_one_map(self):
        name = "m" * 100
        entries = {with_other_sign(name, place): str(place) for place in range(100)}
        entries[name] = "x"
        root = map_of(entries)
        self.assertEqual(entries_of(root), sorted(entries.items()))
        for text, value in entries.items():
            self.assertEqual(value_of(root, text), value)
        self.assertIs(value_of(root, name[:99]), None)
        self.assertIs(value_of(root, name + "m"), None)

    def test_a_name_and_the_same_with_one_sign_more_or_less(self):
        for size in (99, 100, 130):
            name = "q" * size
            entries = {name: "x", name + "q": "y"}
            root = map_of(entries)
            self.assertEqual(entries_of(root), sorted(entries.items()))
            self.assertEqual(changed(root, name + "q", None)[1], size + 1)
            self.assertEqual(changed(root, name, None)[1], size + 1)

    def test_a_name_far_longer_than_calls_may_be_deep(self):
        name = "ab" * 1500
        root, made = changed(EMPTY, name, "x")
        self.assertEqual(made, 3001)
        self.assertEqual(value_of(root, name), "x")
        self.assertEqual(entries_of(root), [(name, "x")])
        self.assertEqual(changed(root, name, None), (EMPTY, 0))

    def test_values_of_a_hundred_signs_and_of_more(self):
        for size in (100, 101, 130):
            root = map_of({"a": "v" * size})
            other = changed(root, "a", "v" * (size - 1) + "w")
            self.assertEqual(other[1], 2)
            self.assertEqual(entries_of(other[0]), [("a", "v" * (size - 1) + "w")])
            self.assertEqual(changed(root, "a", "v" * size)[1], 0)


if __name__ == "__main__":
    unittest.main()
