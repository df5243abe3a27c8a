"""Promise 6: fits."""

import unittest

from tests.helper import NO_PLACE, does_fit, fits, list_of, record, run, shape, value

ONE_OF_EACH = ("null", "true", "false", "5", '"a"', "[]", "[5]", "{}", "{a: 5}")


class FitsTest(unittest.TestCase):
    def assert_just(self, shape_text, good, bad):
        for text in good:
            self.assertTrue(does_fit(text, shape_text), (text, shape_text))
        for text in bad:
            self.assertFalse(does_fit(text, shape_text), (text, shape_text))

    def assert_of_each(self, shape_text, good):
        self.assert_just(shape_text, good, [text for text in ONE_OF_EACH if text not in good])

    def test_places(self):
        given = run(fits(0), shape(1, "null"), fits(1), shape(3, "bool"), fits(3), value("true"), fits(1), fits(3))
        self.assertEqual(given, [[0], [1], [1], [1], [0], [1, 1], [0], [1]])
        for k in (-1, 4, 1000000000000000000, -1000000000000000000):
            self.assertEqual(run(fits(k)), [NO_PLACE])

    def test_each_part_lets_in_its_own(self):
        self.assert_of_each("none", ())
        self.assert_of_each("null", ("null",))
        self.assert_of_each("bool", ("true", "false"))
        self.assert_of_each("num -1000000000..1000000000", ("5",))
        self.assert_of_each("text 0..20 dsgbo", ('"a"',))
        self.assert_of_each("[none] 0..0", ("[]",))
        self.assert_of_each("[num 5..5] 0..10", ("[]", "[5]"))
        self.assert_of_each("{} 0..0", ("{}",))
        self.assert_of_each("{a?: (num 5..5)} 0..1", ("{}", "{a: 5}"))
        self.assert_of_each("dict 1..10 ds 0..16 (num 5..5)", ("{}", "{a: 5}"))
        self.assert_of_each("null | num 5..5 | [num 5..5] 1..1", ("null", "5", "[5]"))
        self.assert_of_each('bool | text "a" | {a: (num 5..5)} 1..1', ("true", "false", '"a"', "{a: 5}"))

    def test_numbers(self):
        self.assert_just("num -3..7", ("-3", "0", "7"), ("-4", "8", "1000000000", "-1000000000"))
        self.assert_just("num 1..1", ("1",), ("0", "2", "-1", "true"))
        self.assert_just("num -1000000000..1000000000", ("-1000000000", "1000000000"), ("null",))

    def test_words(self):
        self.assert_just('text "" "a" "b\\"c"', ('""', '"a"', '"b\\"c"'), ('"b"', '"aa"', '" "', '"A"', '"b\\\\c"', '"b"'))
        self.assert_just('text "a"', ('"a"',), ('""', '"a "', '" a"'))

    def test_lengths(self):
        self.assert_just("text 2..4 s", ('"ab"', '"abc"', '"abcd"'), ('""', '"a"', '"abcde"'))
        self.assert_just("text 0..1 g", ('""', '"A"'), ('"AB"', '"a"'))
        self.assert_just("text 20..20 o", ('"' + "." * 20 + '"',), ('"' + "." * 19 + '"', '""'))
        self.assert_just("text 1..1 o", ('"\\\\"', '"\\""'), ('"\\\\\\\\"',))

    def test_classes(self):
        members = {"d": "059", "s": "amz", "g": "AMZ", "b": " ", "o": "!/:@[`{~_-.\x27"}
        for letter, signs in members.items():
            for shape_letters in ("dsgo", "dsgbo", letter):
                wide = f"text 0..9 {shape_letters}"
                for sign in signs:
                    self.assertEqual(does_fit(f'"{sign}"', wide), letter in shape_letters, (sign, wide))
            others = "dsgbo".replace(letter, "")
            for sign in signs:
                self.assertFalse(does_fit(f'"{sign}"', f"text 0..9 {others}"))
        self.assert_just("text 1..5 ds", ('"a1"', '"1"', '"z9z9z"'), ('"a 1"', '"a1B"', '"a-1"'))

    def test_lists(self):
        self.assert_just("[null | num 0..5] 1..3", ("[null]", "[5, null, 0]"),
                         ("[]", "[1, 2, 3, 4]", "[6]", "[null, true]", "[1, 2, []]", "null", "5"))
        self.assert_just("[none] 0..0", ("[]",), ("[null]", "[[]]"))
        self.assert_just("[[bool] 0..1] 2..2", ("[[], []]", "[[true], []]"), ("[[]]", "[[], [1]]", "[[], [true, true]]"))
        self.assert_just("[num 1..1] 10..10", (list_of(["1"] * 10),), (list_of(["1"] * 9),))

    def test_needed_and_free_fields(self):
        self.assert_just("{a: (num 0..9), b?: (bool), c?: (null)} 1..3",
                         ("{a: 0}", "{a: 9, b: true}", "{a: 1, c: null}", "{a: 1, b: false, c: null}"),
                         ("{}", "{b: true}", "{b: true, c: null}", "{a: 10}", "{a: 1, b: 1}", "{a: 1, c: true}",
                          "{a: 1, d: null}", "{a: 1, b: true, c: null, d: 1}", "{aa: 1}", "{d: 1}", "[]"))

    def test_how_many_fields(self):
        self.assert_just("{a?: (null), b?: (null), c?: (null)} 1..2",
                         ("{a: null}", "{b: null, c: null}"), ("{}", "{a: null, b: null, c: null}"))
        self.assert_just("{a: (null), b?: (null), c?: (null)} 2..2",
                         ("{a: null, b: null}", "{a: null, c: null}"), ("{a: null}", "{b: null, c: null}"))
        self.assert_just("{} 0..0", ("{}",), ("{a: null}",))

    def test_fields_that_are_not_told(self):
        self.assert_just("{b: (null), d?: (null)} 1..2", ("{b: null}", "{b: null, d: null}"),
                         ("{a: null, b: null}", "{b: null, c: null}", "{b: null, e: null}", "{b: null, b0: null}"))

    def test_dictionaries(self):
        self.assert_just("dict 2..3 ds 1..3 (num 0..1)",
                         ("{aa: 0}", "{a1: 1, b2: 0, zzz: 1}"),
                         ("{}", "{a: 0}", "{aaaa: 0}", "{aa: 2}", "{aa: null}", "{aa: 0, ab: 0, ac: 0, ad: 0}", "{aa: 0, b: 0}"))
        self.assert_just("dict 1..9 s 0..16 (null)", ("{}", "{a: null}", record("abcdefghijklmnop", "null")),
                         ("{a1: null}", "{abcdefghij: null}", "{a: null, b: 0}"))
        self.assert_just("dict 1..1 s 16..16 (null)", (record("abcdefghijklmnop", "null"),), (record("abcdefghijklmno", "null"),))

    def test_deep_within(self):
        text = "{a: ([{b?: (text 1..2 s)} 0..1] 0..2)} 1..1"
        self.assert_just(text, ("{a: []}", '{a: [{}, {b: "xy"}]}'), ('{a: [{}, {b: "xyz"}]}', "{a: [{c: 1}]}", "{a: [{}, {}, {}]}"))
        self.assert_just("[[[[[num 1..1] 1..1] 1..1] 1..1] 1..1] 1..1", ("[[[[[1]]]]]",), ("[[[[[2]]]]]", "[[[[[]]]]]", "[[[[1]]]]"))

    def test_it_changes_nothing(self):
        given = run(value("[1]"), shape(0, "[num 1..2] 1..1"), fits(0), fits(0), fits(9), fits(0), shape(0, "[num 1..2] 1..1"))
        self.assertEqual(given[2:], [[1], [1], NO_PLACE, [1], [0]])


if __name__ == "__main__":
    unittest.main()
