"""Promise 1: value."""

import unittest

from tests.helper import REFUSED_TEXT, bytes_of, list_of, nested, record, run, show, text_in, value

LETTERS = "abcdefghijklmnopqrstuvwxyz"


class ValueTest(unittest.TestCase):
    def assert_value(self, text, entries, depth):
        self.assertEqual(run(value(text)), [[entries, depth]], text)

    def assert_refused(self, text):
        self.assertEqual(run(value(text)), [REFUSED_TEXT], text)

    def test_each_sort(self):
        for text in ("null", "true", "false", "0", "7", "-1", '""', '"a b"', "[]", "{}"):
            self.assert_value(text, 1, 1)
        self.assert_value("[1, null, true]", 4, 2)
        self.assert_value('{a: "x", b2: false}', 3, 2)

    def test_entries_and_depth_of_nested_values(self):
        self.assert_value("[[]]", 2, 2)
        self.assert_value("{a: {}}", 2, 2)
        self.assert_value('{a: 1, b: ["x", "y"]}', 5, 3)
        self.assert_value("[1, [2, [3]], {a: [{}, 4]}, 5]", 11, 4)
        self.assert_value("[[[1]], 2]", 5, 4)

    def test_numbers(self):
        for text in ("1000000000", "-1000000000", "10", "-10", "999999999"):
            self.assert_value(text, 1, 1)
        for text in ("1000000001", "-1000000001", "9999999999", "10000000000", "-99999999999", "1" * 5000, "0" * 6000):
            self.assert_refused(text)
        for text in ("00", "01", "-0", "-01", "-00", "-", "--1", "+1", "1.0", "1e3", "0x1", "- 1", "1-", "1_0"):
            self.assert_refused(text)

    def test_words_of_the_plain_sorts(self):
        for text in ("nul", "nulll", "Null", "NULL", "none", "tru", "True", "truefalse", "false0", "a", "bool"):
            self.assert_refused(text)

    def test_empty_and_behind_the_end(self):
        for text in ("", " ", " 1", "1 ", "1 2", "1, 2", "null,", "[] ", "[]]", "{}}", '"a" ', '"a""b"', "1\n", "null\x00"):
            self.assert_refused(text)

    def test_texts(self):
        self.assert_value('"' + "a" * 20 + '"', 1, 1)
        self.assert_refused('"' + "a" * 21 + '"')
        self.assert_value('"' + '\\"' * 20 + '"', 1, 1)
        self.assert_value('"' + "\\\\" * 20 + '"', 1, 1)
        self.assert_refused('"' + '\\"' * 21 + '"')
        self.assert_refused('"' + "\\\\" * 20 + 'a"')
        for text in ('"', '"a', 'a"', '"a\\"', '"\\', '"\\"', '"\\a"', '"\\n"', '"\\ "', '"\\/"', '"a"b"', "'a'"):
            self.assert_refused(text)

    def test_bytes_within_marks(self):
        for byte in range(256):
            text = [34, 97, byte, 34]
            if 32 <= byte <= 126 and byte not in (34, 92):
                self.assert_value(text, 1, 1)
            else:
                self.assert_refused(text)
            if byte in (34, 92):
                self.assert_value([34, 92, byte, 34], 1, 1)
            else:
                self.assert_refused([34, 92, byte, 34])

    def test_lists(self):
        self.assert_value(list_of(["1"] * 10), 11, 2)
        self.assert_refused(list_of(["1"] * 11))
        for text in ("[", "]", "[1", "[1,", "[1, ", "[1, ]", "[, 1]", "[,]", "[1,2]", "[1 , 2]", "[1  2]", "[1 2]",
                     "[1,  2]", "[ 1]", "[1 ]", "[ ]", "[1}", "[1;2]", "[1, 02]", "[1,, 2]"):
            self.assert_refused(text)

    def test_records(self):
        names = LETTERS[:16]
        self.assert_value(record(names, "1"), 17, 2)
        self.assert_refused(record(LETTERS[:17], "1"))
        for text in ("{", "}", "{a}", "{a:}", "{a: }", "{a:1}", "{a : 1}", "{a:  1}", "{ a: 1}", "{a: 1 }", "{ }",
                     "{a: 1,b: 2}", "{a: 1 , b: 2}", "{a: 1,  b: 2}", "{a: 1, }", "{a: 1,}", "{, a: 1}", "{a: 1]",
                     "{a: 1", "{a: 1, b", "{a: 1, b: ", "{: 1}", '{"a": 1}', "{a= 1}", "{a?: 1}", "{a: (1)}"):
            self.assert_refused(text)

    def test_names(self):
        for name in ("a", "z", "a0", "a9", "zz", "a234567890", "abcdefghij", "null", "true", "none", "a1b2c3"):
            self.assert_value("{" + name + ": 1}", 2, 2)
        for name in ("", "0", "0a", "A", "aB", "a_b", "a-b", "a b", "a.b", "abcdefghijk", "a2345678901", "9", "\xe4",
                     "a`", "a{", "a/", "a:"):
            self.assert_refused("{" + name + ": 1}")

    def test_names_rise(self):
        for names in (("a", "b"), ("a", "aa"), ("a0", "aa"), ("a9", "a90"), ("ab", "b"), ("a10", "a2"), ("a", "b", "c")):
            self.assert_value(record(names, "1"), 1 + len(names), 2)
        for names in (("b", "a"), ("a", "a"), ("aa", "a"), ("aa", "a0"), ("a2", "a10"), ("a", "c", "b"), ("a", "b", "b")):
            self.assert_refused(record(names, "1"))

    def test_depth(self):
        self.assert_value(nested("[", "", "]", 6), 6, 6)
        self.assert_refused(nested("[", "", "]", 7))
        self.assert_value(nested("[", "1", "]", 5), 6, 6)
        self.assert_refused(nested("[", "1", "]", 6))
        self.assert_value(nested("{a: ", "null", "}", 5), 6, 6)
        self.assert_refused(nested("{a: ", "null", "}", 6))
        self.assert_value(nested("{a: ", "{}", "}", 5), 6, 6)
        self.assert_refused(nested("{a: ", "{}", "}", 6))
        self.assert_value(nested("[{a: ", "[{}]", "}]", 2), 6, 6)
        self.assert_refused(nested("[{a: ", "[[1]]", "}]", 2))

    def test_very_deep_texts_are_refused_as_well(self):
        for text in ("[" * 6000, "{a: " * 1500, nested("[", "", "]", 3000), "-" * 6000, '"' + "a" * 5998 + '"', "\\" * 6000):
            self.assert_refused(text)

    def test_entries(self):
        tens = list_of(["1"] * 10)
        fifty_nine = list_of([tens] * 5 + ["1", "2", "3"])
        self.assert_value(fifty_nine, 59, 3)
        sixty = list_of([tens] * 5 + ["1"] * 4)
        self.assert_value(sixty, 60, 3)
        self.assert_refused(list_of([tens] * 5 + ["1"] * 5))
        self.assert_value("{a: " + list_of([tens] * 5 + ["1", "[]", "{}"]) + "}", 60, 4)
        self.assert_refused("{a: " + list_of([tens] * 5 + ["1", "[]", "{}", "null"]) + "}")
        self.assert_value("[" + ", ".join([record(LETTERS[:16], "0")] * 3 + ["[1, 2, 3]", "[[]]", '""', "0"]) + "]", 60, 3)

    def test_refusal_leaves_the_value_held(self):
        given = run(value("[1, 2]"), value("[1, 2"), show(), value(""), show(), value("[3]"), show())
        self.assertEqual(given[1], REFUSED_TEXT)
        self.assertEqual(text_in(given[2]), "[1, 2]")
        self.assertEqual(given[3], REFUSED_TEXT)
        self.assertEqual(text_in(given[4]), "[1, 2]")
        self.assertEqual(text_in(given[6]), "[3]")

    def test_every_shortened_text_is_refused(self):
        text = bytes_of('{a: [1, -20], b: {c: "x\\"y", d: null}, e: true}')
        self.assert_value(text, 8, 3)
        for length in range(len(text)):
            self.assert_refused(text[:length])

    def test_every_byte_put_in_or_changed_keeps_to_the_form(self):
        text = '[{a: "", b: [true, null]}, 10]'
        for at in range(len(text) + 1):
            self.assert_refused(text[:at] + "\x7f" + text[at:])
            self.assert_refused(text[:at] + "\t" + text[at:])
        for at in range(len(text)):
            self.assert_refused(text[:at] + "\x80" + text[at + 1:])


if __name__ == "__main__":
    unittest.main()
