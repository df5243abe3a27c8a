"""Promise 11: size."""

import unittest

from tests.helper import (
    NO_PLACE, REFUSED_TEXT, TOO_LARGE, fits, join, learn, least, list_of, misfit, nested, record, run, shape, show, size, told,
    told_all, value, within,
)


class SizeTest(unittest.TestCase):
    def test_on_a_new_object(self):
        self.assertEqual(run(size()), [[1, 1, 0, 0, 0, 0]])

    def test_after_value(self):
        tens = list_of(["1"] * 10)
        for text, entries, deep in (("[]", 1, 1), ("[1, 2]", 3, 2), ('{a: 1, b: ["x", "y"]}', 5, 3),
                                    (nested("[", "", "]", 6), 6, 6), (list_of([tens] * 5 + ["1"] * 4), 60, 3),
                                    (record("abcdefghijklmnop", "{}"), 17, 2)):
            given = run(value(text), size())
            self.assertEqual(given, [[entries, deep], [entries, deep, 0, 0, 0, 0]])

    def test_after_shape(self):
        for text, nodes in (("none", 0), ("null", 1), ("null | bool | num 1..2", 1), ("[none] 0..0", 1), ("[null] 0..1", 2),
                            ("{} 0..0", 1), ("{a: (null), b?: (bool)} 1..2", 3), ("dict 1..1 s 1..1 (null)", 2),
                            ("[[none] 0..0] 1..1 | {a: ([null] 1..1)} 1..1", 4),
                            ("[null] 1..1 | dict 1..1 s 1..1 ([null] 1..1)", 4), (nested("[", "null", "] 1..1", 5), 6)):
            for k in range(4):
                given = run(shape(k, text), size())
                self.assertEqual(given[1], [1, 1] + [nodes if place == k else 0 for place in range(4)], text)

    def test_places_in_their_order(self):
        given = run(value("[[1]]"), shape(3, "null"), shape(1, "[null] 1..1"), shape(0, nested("[", "null", "] 1..1", 3)), size(),
                    shape(2, told_all(["null"] * 6)), shape(0, "none"), size())
        self.assertEqual([given[4], given[7]], [[3, 3, 4, 2, 0, 1], [3, 3, 0, 2, 7, 1]])

    def test_after_join(self):
        given = run(shape(0, "[null] 1..1"), shape(1, "[bool] 1..1 | {a: (null)} 1..1"), join(0, 1, 3), size(),
                    join(2, 2, 1), size())
        self.assertEqual([given[3], given[5]], [[1, 1, 2, 3, 0, 3], [1, 1, 2, 0, 0, 3]])
        given = run(shape(0, told_all(["null"] * 8)), shape(1, told_all(["null"] * 8, "hijklmno")), join(0, 1, 0), size())
        self.assertEqual(given[3], [1, 1, 2, 9, 0, 0])

    def test_after_learn(self):
        given = run(value("{a: [1, 2, null], b: {}}"), learn(1), size(), value("[[]]"), learn(1), learn(2), size())
        self.assertEqual([given[2], given[6]], [[6, 3, 0, 4, 0, 0], [2, 2, 0, 5, 2, 0]])

    def test_a_refused_call_changes_nothing(self):
        most = told_all([told_all(["null"] * 8)] * 6)
        other = told_all([told_all(["null"] * 6)], "g")
        calls = (value("{i: " + record("abcdef", "1") + "}"), shape(0, most), shape(1, other), shape(3, "bool"))
        refused = (
            (value("["), REFUSED_TEXT), (shape(0, "nul"), REFUSED_TEXT), (shape(4, "null"), NO_PLACE), (told(-1), NO_PLACE),
            (fits(4), NO_PLACE), (misfit(4), NO_PLACE), (join(0, 1, 0), TOO_LARGE), (join(0, 1, 2), TOO_LARGE),
            (join(0, 3, 4), NO_PLACE), (join(-1, 0, 1), NO_PLACE), (join(0, 9, 1), NO_PLACE), (learn(0), TOO_LARGE),
            (learn(4), NO_PLACE), (within(0, 4), NO_PLACE), (within(-1, 0), NO_PLACE),
            (shape(1, told_all([told_all(["null"] * 8)] * 7)), REFUSED_TEXT),
        )
        for call, answer in refused:
            given = run(*calls, size(), call, size())
            self.assertEqual(given[4:], [[8, 3, 55, 8, 0, 1], answer, [8, 3, 55, 8, 0, 1]], call[:4])

    def test_it_changes_nothing(self):
        looks = (show(), told(0), told(1), told(2), told(3), least())
        given = run(value("[1]"), shape(2, "[null] 0..3"), *looks, size(), *looks, size())
        self.assertEqual(given[2:8], given[9:15])
        self.assertEqual(given[8], given[15])


if __name__ == "__main__":
    unittest.main()
