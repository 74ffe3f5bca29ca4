"""Points 1 and 3: nothing that is handed in is changed, the same call gives the same, and versions never change."""

import copy
import unittest

from helper import drawn_day
from eldermap.day import answers, beginnings, difference, entries, parents, value, work
from eldermap.notes import back_to, leading


def calls(deeds, count):
    """Calls of everything that the interface has, for some versions out of so many."""
    for asked in (answers, work, parents):
        yield lambda asked=asked: asked(deeds)
    for version in range(0, count, 4):
        for asked in (entries, beginnings):
            yield lambda asked=asked, version=version: asked(deeds, version)
        for asked, more in ((value, "aa"), (difference, count - 1), (leading, count - 1), (back_to, 3)):
            yield lambda asked=asked, version=version, more=more: asked(deeds, version, more)


def spoil(told):
    """Empties every list that was given back."""
    if isinstance(told, (list, tuple)):
        for part in told:
            spoil(part)
    if isinstance(told, list):
        told.clear()


class HandedIn(unittest.TestCase):
    def test_no_call_changes_the_deeds(self):
        for first in range(5):
            deeds, day = drawn_day(first, 40)
            before, parts = copy.deepcopy(deeds), list(deeds)
            for call in calls(deeds, len(day.maps)):
                call()
                self.assertEqual(deeds, before)
            self.assertTrue(all([deed is part for deed, part in zip(deeds, parts)]))

    def test_the_same_call_twice_gives_the_same(self):
        for first in range(5, 10):
            deeds, day = drawn_day(first, 40)
            for call in calls(deeds, len(day.maps)):
                self.assertEqual(call(), call())

    def test_a_change_of_what_was_given_back_reaches_no_later_call(self):
        for first in range(10, 15):
            deeds, day = drawn_day(first, 40)
            before = copy.deepcopy(deeds)
            for call in calls(deeds, len(day.maps)):
                told = call()
                kept = copy.deepcopy(told)
                spoil(told)
                self.assertEqual(call(), kept)
            self.assertEqual(deeds, before)

    def test_the_rows_of_a_clash_are_nobody_elses(self):
        deeds = [("put", 0, "a", "x"), ("put", 0, "a", "y"), ("join", 0, 1, 2), ("join", 0, 1, 2)]
        told = answers(deeds)
        told[2][1].clear()
        self.assertEqual(told[3], ("clash", [("a", None, "x", "y")]))

    def test_one_day_knows_nothing_of_another(self):
        one, two = [("put", 0, "a", "x")], [("put", 0, "b", "y")]
        self.assertEqual((answers(one), answers(two), answers(one)), ([1], [1], [1]))
        self.assertEqual((entries(one, 1), entries(two, 1), entries([], 0)), ([("a", "x")], [("b", "y")], []))


class VersionsNeverChange(unittest.TestCase):
    def test_versions_made_early_tell_the_same_behind_all_later_deeds(self):
        for first in range(20, 26):
            deeds, day = drawn_day(first, 40)
            for size in range(0, 40, 3):
                early = deeds[:size]
                count = len(parents(early))
                self.assertEqual(answers(early), answers(deeds)[:size])
                self.assertEqual(parents(early), parents(deeds)[:count])
                self.assertEqual(work(early), work(deeds)[:size])
                for version in range(max(0, count - 6), count):
                    self.check_alike(early, deeds, version)

    def check_alike(self, early, deeds, version):
        self.assertEqual(entries(early, version), entries(deeds, version))
        self.assertEqual(beginnings(early, version), beginnings(deeds, version))
        self.assertEqual(value(early, version, "a"), value(deeds, version, "a"))
        self.assertEqual(difference(early, 0, version), difference(deeds, 0, version))
        self.assertEqual(difference(early, version, version // 2), difference(deeds, version, version // 2))
        self.assertEqual(back_to(early, version, 2), back_to(deeds, version, 2))

    def test_the_version_nought_stays_empty(self):
        deeds = [("put", 0, "a", "x"), ("put", 0, "", "y"), ("join", 0, 0, 1), ("take", 0, "a")]
        for size in range(5):
            self.assertEqual((entries(deeds[:size], 0), parents(deeds[:size])[0]), ([], None))


if __name__ == "__main__":
    unittest.main()
