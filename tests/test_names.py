"""Point 2: names, values, and one value or none for each name."""

import unittest

from helper import beginnings_told, map_of
from eldermap.errors import MapError, NoName
from eldermap.trees import EMPTY, beginnings_of, changed, entries_of, is_name, value_of

ALPHABET = "abcdefghijklmnopqrstuvwxyz"

# Signs next to a and z, capitals, figures, blanks, and signs that Python calls letters or lower case.
NO_LETTERS = ["A", "Q", "Z", " ", "\t", "\n", "\0", "0", "1", "9", "-", "_", "{", "`", "@", "[", "~", "\x7f",
              "\u00e4", "\u00df", "\u00aa", "\u0131", "\u03b1", "\u0430", "\u0301", "\uff41", "\u2170", "\U0001d41a"]


def texts_with(sign):
    return [sign, sign + sign, sign + "ab", "a" + sign + "b", "ab" + sign, "a" * 99 + sign]


class Names(unittest.TestCase):
    def test_every_letter_and_texts_of_them_are_names(self):
        for text in ["", "a", "m", "z", "az", "za", "aa", "zz", ALPHABET, ALPHABET[::-1], "q" * 100, "q" * 130]:
            self.assertIs(is_name(text), True, text)
        for letter in ALPHABET:
            self.assertIs(is_name(letter), True, letter)

    def test_every_other_ascii_sign_makes_a_text_no_name(self):
        for number in range(128):
            if chr(number) not in ALPHABET:
                self.assertIs(is_name(chr(number)), False, number)

    def test_other_signs_alone_or_among_letters_are_no_names(self):
        for sign in NO_LETTERS:
            for text in texts_with(sign):
                self.assertIs(is_name(text), False, text)

    def test_what_is_no_name_is_refused_and_leaves_the_map_as_it_is(self):
        entries = {"": "e", "ab": "x"}
        for root, told in ((EMPTY, {}), (map_of(entries), entries)):
            for sign in NO_LETTERS:
                for text in texts_with(sign):
                    self.assertRaises(NoName, changed, root, text, "v")
                    self.assertRaises(NoName, changed, root, text, None)
                    self.assertRaises(NoName, value_of, root, text)
            self.assertEqual(beginnings_of(root), beginnings_told(told))

    def test_the_refusal_is_a_map_error(self):
        self.assertRaises(MapError, changed, EMPTY, "A", "v")
        self.assertRaises(ValueError, value_of, EMPTY, "a b")


class Values(unittest.TestCase):
    def test_any_ascii_text_is_kept_as_it_is(self):
        every_sign = "".join([chr(number) for number in range(128)])
        for value in ["x", " ", "0", "None", "a\nb", "\0", every_sign, "v" * 100, "v" * 130]:
            root = changed(EMPTY, "ab", value)[0]
            self.assertEqual(value_of(root, "ab"), value)
            self.assertEqual(entries_of(root), [("ab", value)])

    def test_the_empty_value_is_other_than_none(self):
        for name in ["", "a", "ab"]:
            root, made = changed(EMPTY, name, "")
            self.assertEqual(made, len(name) + 1)
            self.assertEqual(value_of(root, name), "")
            self.assertIsNot(value_of(root, name), None)
            self.assertEqual(entries_of(root), [(name, "")])
            self.assertEqual(beginnings_of(root)[-1], (name, "", ""))

    def test_from_a_value_to_the_empty_one_and_back_is_a_change(self):
        root = map_of({"a": "x"})
        emptied, made = changed(root, "a", "")
        self.assertEqual((made, entries_of(emptied)), (2, [("a", "")]))
        filled, made = changed(emptied, "a", "x")
        self.assertEqual((made, entries_of(filled)), (2, [("a", "x")]))

    def test_taking_away_an_empty_value_leaves_none(self):
        root = map_of({"a": "", "ab": "x"})
        root, made = changed(root, "a", None)
        self.assertEqual(made, 2)
        self.assertIs(value_of(root, "a"), None)
        self.assertEqual(entries_of(root), [("ab", "x")])


class OneValueOrNone(unittest.TestCase):
    def test_a_name_that_was_never_put_has_none(self):
        for root in (EMPTY, map_of({"ab": "x", "b": "y"})):
            for name in ["", "a", "abc", "ba", "z", "q" * 130]:
                self.assertIs(value_of(root, name), None, name)

    def test_a_second_value_takes_the_place_of_the_first(self):
        root = map_of({"ab": "x", "a": "y"})
        root = changed(root, "ab", "z")[0]
        self.assertEqual(value_of(root, "ab"), "z")
        self.assertEqual(entries_of(root), [("a", "y"), ("ab", "z")])

    def test_entries_come_in_the_order_of_texts_however_they_were_put(self):
        names = ["b", "", "zz", "ab", "a", "abc", "z", "aa", "ba"]
        root = map_of({name: name + "!" for name in names})
        self.assertEqual(entries_of(root), [(name, name + "!") for name in sorted(names)])


if __name__ == "__main__":
    unittest.main()
