"""The bounds of point 1 and somewhat beyond: long days, long names and values, numbers of many figures."""

import unittest

from helper import PlainDay, beginnings_told, drawn_day
from eldermap.day import answers, beginnings, difference, entries, parents, value, work
from eldermap.notes import back_to, leading


def long_name(number, size):
    """Names that begin alike for half of their signs, and then tell the number in letters."""
    tail = "".join([chr(97 + int(figure)) for figure in str(number)])
    return (("ab" * size)[:size // 2] + tail + "z" * size)[:size]


class LongDays(unittest.TestCase):
    def test_drawn_days_of_five_hundred_deeds_and_of_more(self):
        for first, size in ((400, 500), (401, 501), (402, 620)):
            deeds, day = drawn_day(first, size)
            self.assertEqual(answers(deeds), day.answers)
            self.assertEqual(work(deeds), day.work)
            self.assertEqual(parents(deeds), day.parents)
            count = len(day.maps)
            self.assertGreater(count, 300)
            for version in list(range(0, count, 40)) + [count - 1]:
                self.assertEqual(entries(deeds, version), sorted(day.maps[version].items()))
                self.assertEqual(beginnings(deeds, version), beginnings_told(day.maps[version]))
                self.assertEqual(difference(deeds, version, count - 1), day.difference(version, count - 1))
                self.assertEqual(leading(deeds, version, 7), day.leading(version, 7))
                self.assertEqual(back_to(deeds, version, 1000), 0)

    def test_long_names_in_a_long_day(self):
        for size, count in ((100, 500), (130, 620)):
            names = [long_name(number, size) for number in range(count)]
            deeds = [("put", version, name, "v") for version, name in enumerate(names)]
            self.assertEqual(answers(deeds), list(range(1, count + 1)))
            self.assertEqual(work(deeds), [size + 1] * count)
            self.assertEqual(entries(deeds, count), [(name, "v") for name in sorted(names)])
            self.assertEqual(difference(deeds, count - 1, count), ([(names[-1], None, "v")], size + 1))
            rows, opened = difference(deeds, 0, count)
            self.assertEqual([row[0] for row in rows], sorted(names))
            self.assertEqual(opened, len(beginnings(deeds, count)))
            self.assertEqual(len(leading(deeds, count, 0)), count)
            self.assertEqual(back_to(deeds, count, count - 1), 1)

    def test_names_of_a_hundred_signs_and_of_more_in_every_kind_of_deed(self):
        for size in (99, 100, 101, 130):
            name, other = "ab" * 65, "ab" * 65
            name, other = name[:size], other[:size - 1] + "z"
            deeds = [("put", 0, name, "x"), ("put", 0, other, "y"), ("join", 0, 1, 2), ("take", 3, name),
                     ("put", 1, name, "z"), ("put", 1, name, "w"), ("join", 1, 5, 6), ("take", 3, name[:-1])]
            day = PlainDay(deeds)
            self.assertEqual(answers(deeds), day.answers)
            self.assertEqual(day.answers[6], ("clash", [(name, "x", "z", "w")]))
            self.assertEqual(work(deeds), day.work)
            for one in range(len(day.maps)):
                self.assertEqual(beginnings(deeds, one), beginnings_told(day.maps[one]))
                for two in range(len(day.maps)):
                    self.assertEqual(difference(deeds, one, two), day.difference(one, two))
                    self.assertEqual(leading(deeds, one, two), day.leading(one, two))

    def test_a_join_of_many_long_names(self):
        names = [long_name(number, 100) for number in range(240)]
        deeds = [("put", version, name, "v") for version, name in enumerate(names)]
        deeds += [("put", 0, "q" * 100, "w"), ("join", 0, 241, 240), ("join", 240, 242, 0), ("join", 242, 240, 242)]
        self.assertEqual(answers(deeds)[240:], [241, 242, 243, 244])
        self.assertEqual(work(deeds)[241], 240 * 101)
        self.assertEqual(entries(deeds, 242), sorted([(name, "v") for name in names] + [("q" * 100, "w")]))
        self.assertEqual(entries(deeds, 243), [("q" * 100, "w")])
        self.assertEqual(work(deeds)[243], 0)

    def test_values_of_a_hundred_signs_and_of_more(self):
        every_sign = "".join([chr(number) for number in range(128)])
        for text in ["v" * 99, "v" * 100, "v" * 101, "v" * 130, every_sign]:
            deeds = [("put", 0, "a", text), ("put", 1, "a", text[:-1] + "?"), ("put", 1, "a", text)]
            self.assertEqual([value(deeds, version, "a") for version in (1, 2, 3)], [text, text[:-1] + "?", text])
            self.assertEqual(work(deeds), [2, 2, 0])

    def test_numbers_of_a_hundred_figures_and_of_far_more(self):
        for figures in (99, 100, 130, 5000):
            for number in (10 ** figures, -10 ** figures, 10 ** figures - 1):
                deeds = [("put", number, "a", "x"), ("take", number, "a"), ("join", number, 0, 0),
                         ("join", 0, 0, number)]
                self.assertEqual(answers(deeds), ["no version"] * 4)


if __name__ == "__main__":
    unittest.main()
