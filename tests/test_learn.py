"""Promise 9: learn."""

import random
import unittest

from tests.helper import (
    NOT_PLACES, NO_PLACE, TOO_LARGE, fits, learn, least, least_of, list_of, misfit, record, run, shape, show, size, some_shape,
    some_value, text_in, told, told_all, value, within,
)


class LearnTest(unittest.TestCase):
    def assert_learned(self, before, value_text, after):
        """With this value the shape before becomes the one after, which the value fits."""
        given = run(shape(1, before), value(value_text), learn(1), told(1), fits(1), misfit(1), learn(1), told(1), show())
        self.assertEqual(given[2], [0 if before == after else 1], (before, value_text))
        self.assertEqual(text_in(given[3]), after)
        self.assertEqual(given[4:7], [[1], [0], [0]])
        self.assertEqual(given[7], given[3])
        self.assertEqual(text_in(given[8]), value_text)

    def test_no_place(self):
        for k in NOT_PLACES:
            given = run(value("[1]"), learn(k), size())
            self.assertEqual(given[1:], [NO_PLACE, [2, 2, 0, 0, 0, 0]])

    def test_on_a_new_object(self):
        for k in range(4):
            given = run(learn(k), told(0), told(1), told(2), told(3), learn(k))
            texts = [text_in(answer) for answer in given[1:5]]
            self.assertEqual(texts, ["null" if place == k else "none" for place in range(4)])
            self.assertEqual([given[0], given[5]], [[1], [0]])

    def test_on_none_it_is_the_least_shape(self):
        for text in ("null", "true", "7", '"x"', "[]", "{}", '[1, "a", [null]]', "{a: 1, b: {c: []}}", record("abcdefghi", "1")):
            self.assert_learned("none", text, least_of(text))
            given = run(value(text), learn(2), told(2), least())
            self.assertEqual(given[2], given[3])

    def test_on_other_sorts(self):
        self.assert_learned("null", "true", "null | bool")
        self.assert_learned('bool | text "a"', "5", 'bool | num 5..5 | text "a"')
        self.assert_learned("[null] 1..1", "{a: 1}", "[null] 1..1 | {a: (num 1..1)} 1..1")
        self.assert_learned("{a: (null)} 1..1", "[]", "[none] 0..0 | {a: (null)} 1..1")
        self.assert_learned("dict 1..1 s 1..1 (null)", '"z"', 'text "z" | dict 1..1 s 1..1 (null)')

    def test_on_the_same_sort(self):
        self.assert_learned("num 1..5", "9", "num 1..9")
        self.assert_learned("num 1..5", "-1", "num -1..5")
        self.assert_learned('text "a" "b" "c"', '"0"', 'text "0" "a" "b" "c"')
        self.assert_learned('text "a" "b" "c" "d"', '"00"', "text 1..2 ds")
        self.assert_learned("text 1..3 s", '""', "text 0..3 s")
        self.assert_learned("[none] 0..0", "[1, null]", "[null | num 1..1] 0..2")
        self.assert_learned("[num 1..2] 2..3", "[]", "[num 1..2] 0..3")
        self.assert_learned("{a: (num 1..1)} 1..1", "{a: 3, b: true}", "{a: (num 1..3), b?: (bool)} 1..2")
        self.assert_learned("{a: (null), b: (null)} 2..2", "{b: 1}", "{a?: (null), b: (null | num 1..1)} 1..2")
        self.assert_learned("{a: (null)} 1..1", "{}", "{a?: (null)} 0..1")
        self.assert_learned(told_all(["null"] * 8), "{i: 1}", "dict 1..1 s 1..8 (null | num 1..1)")
        self.assert_learned("{xyz: (bool)} 1..1", record("abcdefghi", "1"), "dict 1..3 s 1..9 (bool | num 1..1)")
        self.assert_learned("dict 2..3 s 1..2 (null)", "{a: null, b4: [true]}", "dict 1..3 ds 1..2 (null | [bool] 1..1)")
        self.assert_learned("dict 2..3 s 1..2 (null)", "{}", "dict 2..3 s 0..2 (null)")

    def test_what_fits_already(self):
        for before, text in (("num 1..5", "3"), ("text 0..2 s", '"ab"'), ("null | [null | bool] 0..4", "[true, null]"),
                             ("{a?: (null), b?: (null)} 0..2", "{b: null}"), ("dict 1..2 s 0..9 (num 0..9)", "{a: 1, b: 2}")):
            self.assert_learned(before, text, before)

    def test_one_value_after_another(self):
        given = run(value("{a: 1}"), learn(0), value("{a: null, b: [1]}"), learn(0), value("{c: 2}"), learn(0), learn(0),
                    value("[]"), learn(0), told(0), learn(1), told(1))
        self.assertEqual([given[k] for k in (1, 3, 5, 6, 8, 10)], [[1], [1], [1], [0], [1], [1]])
        self.assertEqual(text_in(given[9]), "[none] 0..0 | {a?: (null | num 1..1), b?: ([num 1..1] 1..1), c?: (num 2..2)} 1..2")
        self.assertEqual(text_in(given[11]), "[none] 0..0")

    def test_places_and_value_else_stay(self):
        given = run(shape(0, "null"), shape(3, "bool"), value("[5]"), learn(3), show(), told(0), told(1), told(2), told(3))
        self.assertEqual([text_in(answer) for answer in given[4:]], ["[5]", "null", "none", "none", "bool | [num 5..5] 1..1"])

    def test_sixty_nodes_are_put(self):
        most = told_all([told_all(["null"] * 8)] * 6)
        for items, nodes in (("[[]]", 57), ("[[[1]]]", 59), ("[[[[]]]]", 59), ("[[[[1]]]]", 60)):
            given = run(shape(0, most), value("{g: " + items + "}"), learn(0), fits(0), size(), learn(0))
            self.assertEqual(given[2:4], [[1], [1]])
            self.assertEqual(given[4][2:], [nodes, 0, 0, 0])
            self.assertEqual(given[5], [0])

    def test_more_are_refused(self):
        most = told_all([told_all(["null"] * 8)] * 6)
        for text in ("{g: {a: 1, b: 1, c: 1, d: [1]}}", "{g: [1], h: [[[1]]]}", "{g: " + record("abcdef", "1") + "}"):
            looks = (size(), show(), told(0), told(1))
            given = run(shape(0, most), value(text), *looks, learn(0), learn(0), *looks, learn(1), fits(1))
            self.assertEqual(given[6:8], [TOO_LARGE] * 2)
            self.assertEqual(given[8:12], given[2:6])
            self.assertEqual(given[12:], [[1], [1]])

    def test_the_largest_value(self):
        tens = list_of(["1"] * 10)
        fields = "{" + ", ".join(f"{name}: {record('abcdefg', 'null')}" for name in "abcdefg") + ", h: [[]]}"
        for text, nodes in ((list_of([tens] * 5 + ["1"] * 4), 3), (fields, 59)):
            given = run(value(text), learn(0), size(), fits(0), misfit(0), learn(0))
            self.assertEqual([given[1]] + given[3:], [[1], [1], [0], [0]])
            self.assertEqual(given[2][2:], [nodes, 0, 0, 0])

    def test_many_values(self):
        source = random.Random(11)
        refused = 0
        for _ in range(500):
            before = some_shape(source)
            given = run(shape(0, before), shape(1, before), value(some_value(source)), fits(0), learn(0), fits(0), misfit(0),
                        within(1, 0), learn(0), told(0))
            if given[4] == TOO_LARGE:
                refused += 1
                self.assertEqual(text_in(given[9]), before)
                continue
            self.assertEqual(given[5:9], [[1], [0], [1], [0]], before)
            self.assertEqual(given[4], [0] if text_in(given[9]) == before else [1])
            if given[4] == [0]:
                self.assertEqual(given[3], [1])
        self.assertLess(refused, 50)


if __name__ == "__main__":
    unittest.main()
