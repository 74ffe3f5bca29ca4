"""Drawn days, with all kinds of deeds mixed, against plain maps that are copied whole."""

import unittest

from helper import Drawn, NO_NAMES, beginnings_told, drawn_day, numbers_of_none
from eldermap.day import answers, beginnings, difference, entries, parents, value, work
from eldermap.errors import NoName, NoVersion
from eldermap.notes import back_to, leading

NAMES = ["", "a", "aa", "ab", "aaa", "aab", "b", "ba", "aaaa", "zz"]


def kind(deed, answer):
    if isinstance(answer, int):
        return (deed[0], "made")
    if isinstance(answer, tuple):
        return (deed[0], "one clash" if len(answer[1]) == 1 else "several clashes")
    return (deed[0], answer)


class DrawnDays(unittest.TestCase):
    def check_day(self, deeds, day):
        self.assertEqual(answers(deeds), day.answers)
        self.assertEqual(work(deeds), day.work)
        self.assertEqual(parents(deeds), day.parents)

    def check_version(self, deeds, day, version):
        told = day.maps[version]
        self.assertEqual(entries(deeds, version), sorted(told.items()))
        self.assertEqual(beginnings(deeds, version), beginnings_told(told))
        for name in NAMES[version % 3::3]:
            self.assertEqual(value(deeds, version, name), told.get(name))
        for steps in (0, 1, 2 + version % 4, 1000):
            self.assertEqual(back_to(deeds, version, steps), day.back_to(version, steps))

    def check_pair(self, deeds, day, one, two):
        self.assertEqual(difference(deeds, one, two), day.difference(one, two))
        more = leading(deeds, one, two)
        self.assertEqual(more, day.leading(one, two))
        last = answers(deeds + more)[-1] if more else one
        self.assertEqual(difference(deeds + more, last, two)[0], [])

    def test_many_days_and_all_kinds_of_answers_among_them(self):
        counts = {}
        for first in range(500, 600):
            deeds, day = drawn_day(first, 100)
            self.check_day(deeds, day)
            for deed, answer in zip(deeds, day.answers):
                counts[kind(deed, answer)] = counts.get(kind(deed, answer), 0) + 1
        wanted = [(deed, answer) for deed in ("put", "take") for answer in ("made", "no version", "no name")]
        wanted += [("join", answer) for answer in ("made", "no version", "one clash", "several clashes")]
        for each in wanted:
            self.assertGreaterEqual(counts.get(each, 0), 25, (each, counts))

    def test_small_days_with_all_their_versions_and_pairs(self):
        for first in range(100):
            deeds, day = drawn_day(first, 12)
            self.check_day(deeds, day)
            count = len(day.maps)
            for one in range(count):
                self.check_version(deeds, day, one)
                for two in range(count):
                    self.check_pair(deeds, day, one, two)

    def test_larger_days_with_all_their_versions_and_some_pairs(self):
        for first in range(200, 215):
            deeds, day = drawn_day(first, 70)
            self.check_day(deeds, day)
            drawn, count = Drawn(first), len(day.maps)
            for version in range(count):
                self.check_version(deeds, day, version)
                self.check_pair(deeds, day, version, drawn.below(count))
                self.check_pair(deeds, day, drawn.below(count), version)

    def test_refusals_behind_drawn_deeds(self):
        for first in range(300, 320):
            deeds, day = drawn_day(first, 25)
            for number in numbers_of_none(len(day.maps)):
                self.assertRaises(NoVersion, entries, deeds, number)
                self.assertRaises(NoVersion, value, deeds, number, "A")
                self.assertRaises(NoVersion, difference, deeds, 0, number)
                self.assertRaises(NoVersion, leading, deeds, number, 0)
                self.assertRaises(NoVersion, back_to, deeds, number, 1)
            for text in NO_NAMES:
                self.assertRaises(NoName, value, deeds, len(day.maps) - 1, text)


if __name__ == "__main__":
    unittest.main()
