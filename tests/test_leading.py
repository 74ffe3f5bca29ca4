"""`leading`: the deeds that lead from one version to the map of another."""

import unittest

from helper import PlainDay
from eldermap.day import answers, difference, entries
from eldermap.notes import leading

# Of these, the second, the fourth and the last but one are refused, so that there are fewer versions than deeds.
DEEDS = [("put", 0, "ab", "x"), ("put", 5, "a", "x"), ("put", 1, "ac", ""), ("take", 2, "a b"), ("take", 2, "ab"),
         ("put", 0, "b", "z"), ("put", 4, "", "e"), ("put", 5, "ab", "y"), ("join", 0, 6, 1), ("put", 6, "abc", "w")]


class Leading(unittest.TestCase):
    def test_puts_and_takes_in_order_each_on_the_version_that_the_one_ahead_makes(self):
        deeds = [("put", 0, "b", "1"), ("put", 1, "a", "2"), ("put", 0, "c", "3"), ("put", 3, "b", "4")]
        self.assertEqual(leading(deeds, 2, 4), [("take", 2, "a"), ("put", 5, "b", "4"), ("put", 6, "c", "3")])
        self.assertEqual(leading(deeds, 4, 2), [("put", 4, "a", "2"), ("put", 5, "b", "1"), ("take", 6, "c")])

    def test_one_row_alone_acts_on_one(self):
        deeds = [("put", 0, "b", "1"), ("put", 1, "a", "2")]
        self.assertEqual(leading(deeds, 1, 2), [("put", 1, "a", "2")])
        self.assertEqual(leading(deeds, 2, 1), [("take", 2, "a")])

    def test_from_and_to_the_empty_map(self):
        deeds = [("put", 0, "b", "1"), ("put", 1, "", "2")]
        self.assertEqual(leading(deeds, 0, 2), [("put", 0, "", "2"), ("put", 3, "b", "1")])
        self.assertEqual(leading(deeds, 2, 0), [("take", 2, ""), ("take", 3, "b")])

    def test_the_empty_text_is_put_and_not_taken_away(self):
        deeds = [("put", 0, "a", "x"), ("put", 1, "a", "")]
        self.assertEqual(leading(deeds, 1, 2), [("put", 1, "a", "")])
        self.assertEqual(leading(deeds, 0, 2), [("put", 0, "a", "")])

    def test_where_nothing_differs_there_is_no_deed(self):
        deeds = [("put", 0, "a", "x"), ("take", 1, "a"), ("put", 2, "a", "x"), ("put", 3, "a", "x")]
        for one, two in ((0, 0), (1, 1), (0, 2), (2, 0), (1, 3), (3, 1), (3, 4), (4, 1)):
            self.assertEqual(leading(deeds, one, two), [])
        self.assertEqual(leading([], 0, 0), [])

    def test_a_list_of_tuples(self):
        told = leading(DEEDS, 0, 6)
        self.assertEqual((told.__class__, {deed.__class__ for deed in told}), (list, {tuple}))

    def test_refused_deeds_leave_the_numbers_fitting(self):
        self.assertEqual(leading(DEEDS, 2, 5), [("put", 2, "", "e"), ("take", 8, "ab"), ("take", 9, "ac"),
                                                ("put", 10, "b", "z")])

    def test_all_pairs_of_a_day(self):
        day = PlainDay(DEEDS)
        self.assertEqual([answer for answer in answers(DEEDS) if not isinstance(answer, int)],
                         ["no version", "no name", ("clash", [("ab", None, "y", "x")])])
        for one in range(len(day.maps)):
            for two in range(len(day.maps)):
                self.check(day, one, two)

    def check(self, day, one, two):
        more = leading(DEEDS, one, two)
        self.assertEqual(more, day.leading(one, two))
        self.assertEqual([deed[2] for deed in more], [row[0] for row in difference(DEEDS, one, two)[0]])
        longer = DEEDS + more
        numbers = list(range(len(day.maps), len(day.maps) + len(more)))
        self.assertEqual(answers(longer)[len(DEEDS):], numbers)
        self.assertEqual([deed[1] for deed in more], ([one] + numbers)[:len(more)])
        last = numbers[-1] if numbers else one
        self.assertEqual(difference(longer, last, two)[0], [])
        self.assertEqual(entries(longer, last), entries(DEEDS, two))


if __name__ == "__main__":
    unittest.main()
