"""Point 11: going back from a version over its parents."""

import unittest

from helper import PlainDay
from eldermap.day import beginnings, entries, parents
from eldermap.notes import back_to

# 1, 2 and 3 stand in a row; 4 and 5 are made of 1; 6 joins 5 and 3 and has 5 as its parent; 7 changes nothing.
DEEDS = [("put", 0, "a", "1"), ("put", 1, "b", "2"), ("take", 2, "a"), ("put", 1, "c", "4"), ("put", 4, "ab", "5"),
         ("join", 1, 5, 3), ("put", 6, "b", "2")]
WAYS = [[0], [1, 0], [2, 1, 0], [3, 2, 1, 0], [4, 1, 0], [5, 4, 1, 0], [6, 5, 4, 1, 0], [7, 6, 5, 4, 1, 0]]


class Back(unittest.TestCase):
    def test_the_day_is_as_it_says(self):
        self.assertEqual(parents(DEEDS), [None] + [way[1] for way in WAYS[1:]])

    def test_nought_steps_lead_to_the_version_itself(self):
        for version in range(8):
            self.assertEqual(back_to(DEEDS, version, 0), version)

    def test_as_many_steps_as_there_are_parents(self):
        for version, way in enumerate(WAYS):
            self.assertEqual([back_to(DEEDS, version, steps) for steps in range(len(way))], way)

    def test_behind_the_version_nought_it_stays(self):
        for version, way in enumerate(WAYS):
            for steps in (len(way), len(way) + 1, 999, 1000, 1001, 10 ** 30):
                self.assertEqual(back_to(DEEDS, version, steps), 0)

    def test_a_join_leads_back_to_one(self):
        self.assertEqual(back_to(DEEDS, 6, 1), 5)
        turned = DEEDS[:5] + [("join", 1, 3, 5)]
        self.assertEqual([back_to(turned, 6, steps) for steps in range(5)], [6, 3, 2, 1, 0])

    def test_a_deed_that_changes_nothing_is_a_step_too(self):
        deeds = [("take", 0, "a"), ("take", 1, "a"), ("take", 2, "a")]
        self.assertEqual([back_to(deeds, 3, steps) for steps in range(5)], [3, 2, 1, 0, 0])

    def test_a_refused_deed_is_no_step(self):
        deeds = [("put", 0, "a", "x"), ("put", 1, "A", "x"), ("put", 9, "a", "x"), ("put", 1, "a", "y")]
        self.assertEqual([back_to(deeds, 2, steps) for steps in range(4)], [2, 1, 0, 0])

    def test_a_day_without_deeds(self):
        for steps in (0, 1, 1000):
            self.assertEqual(back_to([], 0, steps), 0)

    def test_a_long_row_of_versions(self):
        deeds = [("put", version, "a", str(version)) for version in range(520)]
        for steps in (0, 1, 2, 519, 520, 521, 1000):
            self.assertEqual(back_to(deeds, 520, steps), max(0, 520 - steps))

    def test_a_version_made_of_the_one_gone_back_to_leaves_all_others_as_they_are(self):
        day = PlainDay(DEEDS)
        for version in range(8):
            for steps in range(6):
                reached = back_to(DEEDS, version, steps)
                longer = DEEDS + [("put", reached, "ab", "new"), ("take", reached, "a"), ("join", 0, reached, 7)]
                self.assertEqual(parents(longer)[8:10], [reached, reached])
                for elder in range(8):
                    self.assertEqual(entries(longer, elder), sorted(day.maps[elder].items()))
                    self.assertEqual(beginnings(longer, elder), beginnings(DEEDS, elder))
                    self.assertEqual(back_to(longer, elder, 1), back_to(DEEDS, elder, 1))


if __name__ == "__main__":
    unittest.main()
