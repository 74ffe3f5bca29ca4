"""Points 3 and 6: what deeds are answered with, the numbers of versions and their parents."""

import unittest

from helper import NO_NAMES, numbers_of_none
from eldermap.day import answers, entries, parents, value, work

# Makes the versions 1, 2 and 3, so that 4 is their count.
THREE = [("put", 0, "ab", "x"), ("put", 1, "ac", "y"), ("take", 2, "ab")]


class Deeds(unittest.TestCase):
    def test_a_day_without_deeds(self):
        self.assertEqual(answers([]), [])
        self.assertEqual(work([]), [])
        self.assertEqual(parents([]), [None])
        self.assertEqual(entries([], 0), [])

    def test_put_and_take_are_answered_with_the_number_of_what_they_make(self):
        self.assertEqual(answers(THREE), [1, 2, 3])
        self.assertEqual(parents(THREE), [None, 0, 1, 2])
        self.assertEqual(entries(THREE, 0), [])
        self.assertEqual(entries(THREE, 1), [("ab", "x")])
        self.assertEqual(entries(THREE, 2), [("ab", "x"), ("ac", "y")])
        self.assertEqual(entries(THREE, 3), [("ac", "y")])

    def test_a_join_is_answered_with_the_number_of_what_it_makes(self):
        deeds = [("put", 0, "a", "x"), ("put", 0, "b", "y"), ("join", 0, 1, 2)]
        self.assertEqual(answers(deeds), [1, 2, 3])
        self.assertEqual(entries(deeds, 3), [("a", "x"), ("b", "y")])
        self.assertEqual(parents(deeds), [None, 0, 0, 1])

    def test_a_deed_acts_on_the_version_that_it_names_and_not_on_the_youngest(self):
        deeds = [("put", 0, "a", "x"), ("put", 0, "b", "y"), ("put", 1, "c", "z"), ("take", 1, "a"), ("put", 0, "", "")]
        self.assertEqual(answers(deeds), [1, 2, 3, 4, 5])
        self.assertEqual(parents(deeds), [None, 0, 0, 1, 1, 0])
        self.assertEqual([entries(deeds, version) for version in range(6)],
                         [[], [("a", "x")], [("b", "y")], [("a", "x"), ("c", "z")], [], [("", "")]])

    def test_a_second_value_takes_the_place_of_the_first(self):
        deeds = [("put", 0, "a", "x"), ("put", 1, "a", ""), ("put", 2, "a", "z")]
        self.assertEqual([value(deeds, version, "a") for version in range(4)], [None, "x", "", "z"])

    def test_a_deed_that_changes_nothing_makes_a_version_all_the_same(self):
        deeds = [("take", 0, "a"), ("put", 1, "a", "x"), ("put", 2, "a", "x"), ("take", 3, "b"), ("put", 1, "", "e")]
        self.assertEqual(answers(deeds), [1, 2, 3, 4, 5])
        self.assertEqual(parents(deeds), [None, 0, 1, 2, 3, 1])
        self.assertEqual([entries(deeds, version) for version in range(1, 5)], [[]] + [[("a", "x")]] * 3)

    def test_the_answers_are_whole_numbers_and_not_true_or_false(self):
        self.assertEqual([answer.__class__ for answer in answers(THREE)], [int, int, int])


class RefusedDeeds(unittest.TestCase):
    def refused(self, deed, answer):
        """The deed is refused behind THREE, makes nothing, and leaves its number to the next one."""
        deeds = THREE + [deed, ("put", 3, "z", "next")]
        self.assertEqual(answers(deeds), [1, 2, 3, answer, 4], deed)
        self.assertEqual(parents(deeds), [None, 0, 1, 2, 3], deed)
        self.assertEqual(work(deeds)[3], 0, deed)
        self.assertEqual(entries(deeds, 4), [("ac", "y"), ("z", "next")], deed)


class NoVersion(RefusedDeeds):
    def test_numbers_of_no_version_in_put_and_take(self):
        for number in numbers_of_none(4):
            self.refused(("put", number, "a", "x"), "no version")
            self.refused(("take", number, "ab"), "no version")

    def test_numbers_of_no_version_in_each_place_of_a_join(self):
        for number in numbers_of_none(4):
            for version in (0, 1, 3):
                self.refused(("join", number, version, version), "no version")
                self.refused(("join", version, number, version), "no version")
                self.refused(("join", version, version, number), "no version")

    def test_numbers_of_no_version_in_several_places_of_a_join(self):
        for number in numbers_of_none(4):
            for other in numbers_of_none(4):
                self.refused(("join", 0, number, other), "no version")
                self.refused(("join", number, 1, other), "no version")
                self.refused(("join", number, other, 2), "no version")
                self.refused(("join", number, other, number), "no version")

    def test_no_version_goes_ahead_of_a_clash(self):
        clashing = [("put", 0, "a", "x"), ("put", 0, "a", "y"), ("join", 0, 1, 2)]
        self.assertEqual(answers(clashing)[2][0], "clash")
        self.assertEqual(answers(clashing + [("join", 3, 1, 2), ("join", -1, 1, 2)])[3:], ["no version"] * 2)

    def test_a_version_is_none_ahead_of_the_deed_that_makes_it(self):
        deeds = [("put", 1, "a", "x"), ("put", 0, "a", "x"), ("put", 1, "b", "x"), ("take", 3, "a")]
        self.assertEqual(answers(deeds), ["no version", 1, 2, "no version"])
        self.assertEqual(answers([("join", 0, 0, 1), ("take", 1, "a")]), ["no version"] * 2)

    def test_every_number_round_the_count_of_versions(self):
        for number in range(-8, 8):
            for deed in (("put", number, "a", "x"), ("take", number, "a"), ("join", 3, 3, number),
                         ("join", 3, number, 3), ("join", number, 3, 3)):
                expected = 4 if 0 <= number < 4 else "no version"
                self.assertEqual(answers(THREE + [deed])[3], expected, deed)


class NoName(RefusedDeeds):
    def test_what_is_no_name_in_put_and_take(self):
        for text in NO_NAMES:
            for version in range(4):
                self.refused(("put", version, text, "x"), "no name")
                self.refused(("take", version, text), "no name")

    def test_no_version_goes_ahead_of_no_name(self):
        for text in NO_NAMES:
            for number in numbers_of_none(4):
                self.refused(("put", number, text, "x"), "no version")
                self.refused(("take", number, text), "no version")

    def test_what_is_no_name_is_refused_in_a_value_never(self):
        for text in NO_NAMES[:-1] + ["no name", "clash", "None"]:
            deeds = [("put", 0, "a", text)]
            self.assertEqual((answers(deeds), value(deeds, 1, "a")), ([1], text))

    def test_a_row_of_refused_deeds_alone(self):
        deeds = [("take", 0, "A"), ("put", 1, "a", "x"), ("join", 0, 0, 1), ("put", 0, "a b", "x")]
        self.assertEqual(answers(deeds), ["no name", "no version", "no version", "no name"])
        self.assertEqual((work(deeds), parents(deeds)), ([0] * 4, [None]))


if __name__ == "__main__":
    unittest.main()
