"""Promise 10: within."""

import random
import unittest

from tests.helper import (
    NOT_PLACES, NO_PLACE, TOO_LARGE, does_fit, is_within, join, joined_of, least_of, run, shape, show, size, some_shape,
    some_value, told, told_all, value, within,
)

EACH = (
    "null", "bool", "num 1..2", 'text "a"', "text 1..2 s", "[none] 0..0", "[null] 1..1", "{} 0..0", "{a: (null)} 1..1",
    "dict 1..1 s 1..1 (null)",
)


class WithinTestCase(unittest.TestCase):
    def assert_within(self, one, *others):
        for other in others:
            self.assertTrue(is_within(one, other), (one, other))

    def assert_not_within(self, one, *others):
        for other in others:
            self.assertFalse(is_within(one, other), (one, other))


class CallTest(WithinTestCase):
    def test_no_place(self):
        for k in NOT_PLACES:
            self.assertEqual(run(within(k, 0), within(0, k), within(k, k)), [NO_PLACE] * 3)

    def test_which_is_within_which(self):
        given = run(shape(0, "num 1..5"), shape(1, "num 2..3"), within(0, 1), within(1, 0), within(0, 0), within(2, 0),
                    within(0, 2), within(2, 3), within(3, 3))
        self.assertEqual(given[2:], [[0], [1], [1], [1], [0], [1], [1]])

    def test_it_changes_nothing(self):
        looks = (size(), show(), told(0), told(1), told(2), told(3))
        given = run(value("[1]"), shape(0, "null"), shape(1, "null | bool"), *looks, within(0, 1), within(1, 0), within(4, 0),
                    within(0, 4), *looks)
        self.assertEqual(given[9:13], [[1], [0], NO_PLACE, NO_PLACE])
        self.assertEqual(given[3:9], given[13:])


class PartsTest(WithinTestCase):
    def test_none(self):
        self.assert_within("none", "none", *EACH)
        for text in EACH:
            self.assert_not_within(text, "none")

    def test_each_alone(self):
        for k, one in enumerate(EACH):
            for other in EACH[:k] + EACH[k + 1:]:
                if (one, other) not in (('text "a"', "text 1..2 s"), ("{a: (null)} 1..1", "dict 1..1 s 1..1 (null)")):
                    self.assert_not_within(one, other)
            self.assert_within(one, one)

    def test_several(self):
        whole = 'null | bool | num 1..9 | text "a" "b" | [null] 0..3 | {a?: (null), b: (bool)} 1..2'
        self.assert_within(whole, whole)
        self.assert_within('null | num 2..3 | text "b" | {a: (null), b: (bool)} 2..2', whole)
        for part in whole.split(" | "):
            self.assert_within(part, whole)
            self.assert_not_within(whole, part)
            others = " | ".join(other for other in whole.split(" | ") if other != part)
            self.assert_not_within(whole, others)
            self.assert_not_within(part, others)
            self.assert_within(others, whole)
        self.assert_not_within('null | bool | num 0..9 | text "a"', whole)
        self.assert_not_within('null | bool | num 1..9 | text "a" "c"', whole)

    def test_spans(self):
        self.assert_within("num 2..5", "num 2..5", "num 1..5", "num 2..6", "num -1000000000..1000000000")
        self.assert_not_within("num 2..5", "num 3..5", "num 2..4", "num 3..4", "num 6..9", "num 0..1", "num 5..9")
        self.assert_within("num -3..-3", "num -3..-3", "num -4..-3", "num -3..0")
        self.assert_not_within("num -3..-3", "num -2..0", "num -9..-4")


class PatternTest(WithinTestCase):
    def test_words_in_words(self):
        self.assert_within('text "a" "c"', 'text "a" "c"', 'text "a" "b" "c" "d"', 'text "" "a" "c"')
        self.assert_not_within('text "a" "c"', 'text "a"', 'text "c"', 'text "a" "b"', 'text "b" "d"', 'text "A" "C"',
                               'text "ac"')

    def test_words_in_an_open_pattern(self):
        self.assert_within('text "a" "bb"', "text 1..2 s", "text 0..20 dsgbo", "text 1..9 sb")
        self.assert_not_within('text "a" "bb"', "text 2..2 s", "text 1..1 s", "text 1..2 d", "text 1..2 dgbo", "text 3..4 s")
        self.assert_not_within('text "a" "b1"', "text 1..2 s")
        self.assert_within('text "a" "b1"', "text 1..2 ds")
        self.assert_within('text ""', "text 0..1 d", "text 0..4 b")
        self.assert_not_within('text ""', "text 1..1 d")

    def test_an_open_pattern_in_an_open_one(self):
        self.assert_within("text 2..4 sg", "text 2..4 sg", "text 1..4 sg", "text 2..5 sg", "text 2..4 dsg", "text 0..20 dsgbo")
        self.assert_not_within("text 2..4 sg", "text 3..4 sg", "text 2..3 sg", "text 2..4 s", "text 2..4 g", "text 2..4 dsbo",
                               "text 5..9 sg", "text 0..1 sg")
        for letter in "dsgo":
            for other in "dsgo":
                self.assertEqual(is_within(f"text 1..1 {letter}", f"text 1..1 {other}"), letter == other)
        self.assert_within("text 1..5 b", "text 0..5 b", "text 1..5 sb", "text 1..5 bo")
        self.assert_not_within("text 1..5 b", "text 1..5 dsgo", "text 2..6 b")

    def test_an_open_pattern_is_in_no_words(self):
        self.assert_not_within("text 1..1 s", 'text "a" "b" "c" "d"', 'text "a"')
        self.assert_not_within("text 0..4 b", 'text "" " " "  " "   "')


class ListTest(WithinTestCase):
    def test_lists(self):
        self.assert_within("[num 1..2] 2..3", "[num 1..2] 2..3", "[num 1..2] 1..3", "[num 1..2] 2..10", "[null | num 0..9] 2..3")
        self.assert_not_within("[num 1..2] 2..3", "[num 1..2] 3..3", "[num 1..2] 2..2", "[num 1..1] 2..3", "[null] 2..3",
                               "[none] 0..0", "num 1..2", "[num 1..2] 4..9", "[[num 1..2] 2..3] 2..3")

    def test_empty_lists(self):
        self.assert_within("[none] 0..0", "[none] 0..0", "[null] 0..1", "[num 1..1] 0..10", "null | [[none] 0..0] 0..1")
        self.assert_not_within("[none] 0..0", "[null] 1..1", "null", "{} 0..0")
        self.assert_not_within("[null] 0..1", "[none] 0..0")
        self.assert_within("[[none] 0..0] 1..1", "[[bool] 0..1] 1..1")
        self.assert_not_within("[[bool] 0..1] 1..1", "[[none] 0..0] 1..1")


class ToldFieldsTest(WithinTestCase):
    def test_span(self):
        fields = "{a?: (null), b?: (null), c?: (null), d?: (null)} "
        self.assert_within(fields + "1..2", fields + "1..2", fields + "0..2", fields + "1..3", fields + "0..4")
        self.assert_not_within(fields + "1..2", fields + "2..2", fields + "1..1", fields + "2..3", fields + "3..3")

    def test_a_field_that_is_not_told_there(self):
        self.assert_not_within("{a: (null)} 1..1", "{b: (null)} 1..1", "{} 0..0", "{aa: (null)} 1..1", "{b?: (null)} 0..1")
        self.assert_not_within("{a: (null), b?: (null), c?: (null)} 1..2", "{a: (null), b?: (null)} 1..2",
                               "{a: (null), c?: (null)} 1..2")
        self.assert_not_within("{a?: (null), b: (null)} 1..2", "{b: (null), c?: (null)} 1..2")

    def test_a_field_that_is_needed_there(self):
        self.assert_not_within("{a?: (null), b: (null)} 1..2", "{a: (null), b?: (null)} 1..2")
        self.assert_within("{a: (null), b: (null)} 2..2", "{a: (null), b?: (null)} 1..2", "{a?: (null), b?: (null)} 0..2")
        self.assert_not_within("{b: (null)} 1..1", "{a: (null), b?: (null)} 1..2")
        self.assert_not_within("{b: (null)} 1..1", "{b?: (null), c: (null)} 1..2")
        self.assert_within("{b: (null)} 1..1", "{b: (null), c?: (null)} 1..2", "{a?: (null), b: (null)} 1..2")
        self.assert_not_within("{a?: (null), b?: (null)} 1..1", "{a: (null), b?: (null)} 1..2", "{a?: (null), b: (null)} 1..2")
        self.assert_not_within("{a: (null), b?: (null), c?: (null)} 2..2", "{a: (null), b: (null), c?: (null)} 2..3")

    def test_shapes(self):
        self.assert_within("{a: (num 1..2)} 1..1", "{a: (num 1..2)} 1..1", "{a: (null | num 0..2)} 1..1", "{a?: (num 1..3)} 0..1")
        self.assert_not_within("{a: (num 1..2)} 1..1", "{a: (num 1..1)} 1..1", "{a: (null)} 1..1", "{a?: (num 2..3)} 0..1")
        self.assert_not_within("{a: (null), b: (num 1..2)} 2..2", "{a: (null), b: (num 1..1)} 2..2")
        self.assert_not_within("{a: (num 1..2), b: (null)} 2..2", "{a: (num 1..1), b: (null)} 2..2")
        self.assert_not_within("{a?: (num 1..2), b: (null)} 1..2", "{a?: (bool), b: (null)} 1..2")
        self.assert_within("{a: ({b: ([bool] 1..1)} 1..1)} 1..1", "{a: ({b: ([bool] 0..1), c?: (null)} 1..2)} 1..1")
        self.assert_not_within("{a: ({b: ([bool] 1..1)} 1..1)} 1..1", "{a: ({b: ([null] 0..1), c?: (null)} 1..2)} 1..1")

    def test_no_fields(self):
        self.assert_within("{} 0..0", "{} 0..0", "{a?: (null)} 0..1", "dict 1..1 s 0..1 (null)")
        self.assert_not_within("{} 0..0", "{a: (null)} 1..1", "{a?: (null), b?: (null)} 1..1", "dict 1..1 s 1..1 (null)")
        self.assert_not_within("{a?: (null)} 0..1", "{} 0..0")


class DictTest(WithinTestCase):
    def test_told_fields_in_a_dictionary(self):
        fields = "{ab: (num 1..2), c1?: (null)} 1..2"
        self.assert_within(fields, "dict 2..2 ds 1..2 (null | num 1..2)", "dict 1..10 ds 0..16 (null | bool | num -9..9)")
        self.assert_not_within(fields, "dict 2..2 ds 2..2 (null | num 1..2)", "dict 2..2 ds 1..1 (null | num 1..2)")
        self.assert_not_within(fields, "dict 2..2 s 1..2 (null | num 1..2)", "dict 3..9 ds 1..2 (null | num 1..2)")
        self.assert_not_within(fields, "dict 2..2 ds 1..2 (null)", "dict 2..2 ds 1..2 (num 1..2)",
                               "dict 2..2 ds 1..2 (null | num 1..1)")
        self.assert_within("{a: (null), bc: (null)} 2..2", "dict 1..2 s 2..2 (null)")
        self.assert_not_within("{a: (null), bc: (null)} 2..2", "dict 1..1 s 2..2 (null)", "dict 2..2 s 2..2 (null)")
        self.assert_not_within("{a: (null), b?: (bool)} 1..2", "dict 1..1 s 1..2 (null)")

    def test_a_dictionary_in_a_dictionary(self):
        one = "dict 2..3 s 2..4 (num 1..2)"
        self.assert_within(one, one, "dict 1..3 s 2..4 (num 1..2)", "dict 2..4 s 2..4 (num 1..2)", "dict 2..3 ds 2..4 (num 1..2)",
                           "dict 2..3 s 1..4 (num 1..2)", "dict 2..3 s 2..5 (num 1..2)", "dict 2..3 s 2..4 (bool | num 1..3)")
        self.assert_not_within(one, "dict 3..3 s 2..4 (num 1..2)", "dict 2..2 s 2..4 (num 1..2)", "dict 2..3 s 3..4 (num 1..2)",
                               "dict 2..3 s 2..3 (num 1..2)", "dict 2..3 s 2..4 (num 1..1)", "dict 2..3 s 2..4 (bool)")
        self.assert_not_within("dict 2..3 ds 2..4 (num 1..2)", one)

    def test_a_dictionary_is_in_no_told_fields(self):
        eight = told_all(["null"] * 8).replace(":", "?:").replace("8..8", "0..8")
        self.assert_not_within("dict 1..1 s 0..1 (null)", eight, "{a?: (null)} 0..1", "{} 0..0", "{a: (null)} 1..1")
        self.assert_not_within("[dict 1..1 s 0..1 (null)] 1..1", f"[{eight}] 1..1")
        self.assert_within(eight, "dict 1..1 s 0..8 (null)")


class ManyTest(WithinTestCase):
    def test_in_itself_and_in_what_is_joined(self):
        source = random.Random(12)
        for _ in range(500):
            given = run(shape(0, some_shape(source)), shape(1, some_shape(source)), within(0, 0), within(1, 1), join(0, 1, 2),
                        within(0, 2), within(1, 2), within(0, 1), join(0, 1, 1))
            self.assertEqual(given[2:4], [[1], [1]])
            if given[4] != TOO_LARGE:
                self.assertEqual(given[5:7], [[1], [1]])
            # Joined to what it is within, a shape adds nothing.
            if given[7] == [1]:
                self.assertEqual(given[8], [0])

    def test_what_fits_a_shape_fits_those_it_is_within(self):
        source = random.Random(13)
        met = 0
        for _ in range(600):
            text = some_value(source, 3)
            one = joined_of(least_of(text), some_shape(source, 3))
            other = joined_of(one, some_shape(source)) if source.random() < 0.3 else some_shape(source)
            if is_within(one, other):
                met += 1
                self.assertTrue(does_fit(text, other), (text, one, other))
        self.assertGreater(met, 100)


if __name__ == "__main__":
    unittest.main()
