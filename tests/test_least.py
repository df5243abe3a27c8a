"""Promise 5: least."""

import itertools
import random
import unittest

from looseshapes.data import read_value
from looseshapes.forms import nodes_of
from looseshapes.joining import joined, least_shape
from looseshapes.shapereading import read_shape
from looseshapes.shapewriting import shape_text
from tests.helper import (
    bytes_of, does_fit, least, least_of, list_of, record, run, shape, show, some_value, text_in, told, value,
)


class LeastTest(unittest.TestCase):
    def assert_least(self, text, expected):
        self.assertEqual(least_of(text), expected)

    def assert_items(self, items, expected):
        """The items' shape is this one, in whatever order they come."""
        for order in itertools.islice(itertools.permutations(items), 120):
            self.assert_least(list_of(order), f"[{expected}] {len(items)}..{len(items)}")

    def test_on_a_new_object(self):
        self.assertEqual(run(least()), [[4, 110, 117, 108, 108]])

    def test_each_sort(self):
        self.assert_least("null", "null")
        self.assert_least("true", "bool")
        self.assert_least("false", "bool")
        self.assert_least("-5", "num -5..-5")
        self.assert_least("1000000000", "num 1000000000..1000000000")
        self.assert_least('""', 'text ""')
        self.assert_least('"a\\"\\\\ b"', 'text "a\\"\\\\ b"')
        self.assert_least("[]", "[none] 0..0")
        self.assert_least("[0]", "[num 0..0] 1..1")
        self.assert_least("{}", "{} 0..0")
        self.assert_least("{a: null, b: []}", "{a: (null), b: ([none] 0..0)} 2..2")

    def test_it_changes_nothing(self):
        given = run(value("[1]"), shape(0, "bool"), least(), show(), told(0), least())
        self.assertEqual(given[2], given[5])
        self.assertEqual(text_in(given[3]), "[1]")
        self.assertEqual(text_in(given[4]), "bool")

    def test_items_of_several_sorts(self):
        self.assert_items(["null", "true", "3", '"x"'], 'null | bool | num 3..3 | text "x"')
        self.assert_items(["3", "-2", "0"], "num -2..3")
        self.assert_items(["true", "false"], "bool")
        self.assert_items(["[]", "{}", "null"], "null | [none] 0..0 | {} 0..0")
        self.assert_items(["null", "null"], "null")

    def test_items_that_are_lists(self):
        self.assert_items(["[]", "[1]", "[2, null]"], "[null | num 1..2] 0..2")
        self.assert_items(["[]", "[]"], "[none] 0..0")
        self.assert_items(["[[]]", "[[true]]", "[]"], "[[bool] 0..1] 0..1")

    def test_words(self):
        self.assert_items(['"b"', '"a"', '"b"', '""'], 'text "" "a" "b"')
        self.assert_items(['"d"', '"c"', '"b"', '"a"'], 'text "a" "b" "c" "d"')
        self.assert_items(['"10"', '"9"', '"1"'], 'text "1" "10" "9"')
        self.assert_items(['"d"', '"c"', '"b"', '"a"', '"a"'], 'text "a" "b" "c" "d"')

    def test_words_that_become_open(self):
        self.assert_items(['"e"', '"d"', '"c"', '"b"', '"a"'], "text 1..1 s")
        self.assert_items(['""', '"d"', '"cc"', '"bbb"', '"A"'], "text 0..3 sg")
        self.assert_items(['"a1"', '"B c"', '"?"', '"d"', '"eeee"'], "text 1..4 dsgbo")
        self.assert_items(['""', '" "', '"  "', '"   "', '"    "'], "text 0..4 b")
        self.assert_items(['"1"', '"2"', '"3"', '"4"', '"12345678901234567890"'], "text 1..20 d")
        self.assert_items(['"\\""', '"\\\\"', '"~"', '"/"', '":"'], "text 1..1 o")

    def test_the_edges_of_classes(self):
        for sign, letter in zip("/09:@AZ[`az{ !~", "oddooggoossoboo"):
            texts = ['""'] + ['"' + sign * length + '"' for length in (1, 2, 3, 4)]
            self.assert_least(list_of(texts), f"[text 0..4 {letter}] 5..5")

    def test_words_that_become_open_in_several_steps(self):
        self.assert_least('[["a", "b", "c"], ["d", "ee"]]', "[[text 1..2 s] 2..3] 2..2")
        self.assert_least('[["a", "b", "c", "d", "e"], ["7", "7777"]]', "[[text 1..4 ds] 2..5] 2..2")
        self.assert_least('[["7", "7777"], ["a", "b", "c", "d", "e"]]', "[[text 1..4 ds] 2..5] 2..2")
        five = '["A", "B", "C", "D", "E"]'
        self.assert_least(f'[["a", "b", "c", "d", "e"], {five}]', "[[text 1..1 sg] 5..5] 2..2")

    def test_items_that_are_records(self):
        self.assert_items(["{a: 1}", "{a: 2}"], "{a: (num 1..2)} 1..1")
        self.assert_items(["{a: 1}", "{a: null, b: 2}"], "{a: (null | num 1..1), b?: (num 2..2)} 1..2")
        self.assert_items(["{a: 1}", "{b: 1}"], "{a?: (num 1..1), b?: (num 1..1)} 1..1")
        self.assert_items(["{}", "{a: 1}"], "{a?: (num 1..1)} 0..1")
        self.assert_items(["{b: 1, c: 1}", "{a: 1, c: 2}", "{b: 3, c: []}"],
                          "{a?: (num 1..1), b?: (num 1..3), c: (num 1..2 | [none] 0..0)} 2..2")
        self.assert_items(["{a: {b: 1}}", "{a: {c: 2}}", "{a: null}"],
                          "{a: (null | {b?: (num 1..1), c?: (num 2..2)} 1..1)} 1..1")

    def test_eight_fields_stay_told(self):
        fields = ", ".join(f"{name}: (null)" for name in "abcdefgh")
        self.assert_least(record("abcdefgh", "null"), "{" + fields + "} 8..8")
        free = fields.replace(":", "?:")
        self.assert_items([record("abcd", "null"), record("efgh", "null")], "{" + free + "} 4..4")

    def test_nine_fields_become_a_dictionary(self):
        self.assert_least(record("abcdefghi", "1"), "dict 1..1 s 9..9 (num 1..1)")
        self.assert_least(record("abcdefghijklmnop", "[]"), "dict 1..1 s 16..16 ([none] 0..0)")
        names = ("a", "b", "c", "d", "e", "f", "g", "h1", "hello67890")
        self.assert_least(record(names, "true"), "dict 1..10 ds 9..9 (bool)")
        names = ("aa", "ab", "ac", "ad", "ae", "af", "ag", "ah", "aijk")
        self.assert_least(record(names, "true"), "dict 2..4 s 9..9 (bool)")
        self.assert_least('{a: 1, b: null, c: -7, d: "x", e: [], f: [1], g: {}, h: {x: 1}, i: "w"}',
                          'dict 1..1 s 9..9 (null | num -7..1 | text "w" "x" | [num 1..1] 0..1 | {x?: (num 1..1)} 0..1)')

    def test_fields_that_become_a_dictionary_by_joining(self):
        self.assert_items([record("abcde", "1"), record("fghi", "2")], "dict 1..1 s 4..5 (num 1..2)")
        self.assert_items([record("abcde", "1"), "{fff: 2, g0: null, h: 4, i: 5}", "{a: 9}", "{}"],
                          "dict 1..3 ds 0..5 (null | num 1..9)")
        self.assert_items([record("abcdefghi", "1"), '{xyz: "t"}'], 'dict 1..3 s 1..9 (num 1..1 | text "t")')
        self.assert_items([record("abcdefghi", "1"), "{}"], "dict 1..1 s 0..9 (num 1..1)")
        self.assert_items([record("abcdefghi", "1"), record(["x%d" % k for k in range(10)], "true")],
                          "dict 1..2 ds 9..10 (bool | num 1..1)")
        names = ("abcd", "cdef", "efgh", "aghi")
        self.assert_items([record(part, "null") for part in names], "dict 1..1 s 4..4 (null)")

    def test_dictionaries_within(self):
        inner = record("abcdefghi", "1")
        self.assert_least("{a: " + inner + "}", "{a: (dict 1..1 s 9..9 (num 1..1))} 1..1")
        self.assert_least("[" + inner + ", {b: 2}]", "[dict 1..1 s 1..9 (num 1..2)] 2..2")
        self.assert_least("[[" + record("abcde", "0") + "], [" + record("efghij", "0") + "]]",
                          "[[dict 1..1 s 5..6 (num 0..0)] 1..1] 2..2")

    def test_deepest_values(self):
        self.assert_least("[[[[[1]]]]]", "[[[[[num 1..1] 1..1] 1..1] 1..1] 1..1] 1..1")
        self.assert_least("[[[[[[]]]]]]", "[[[[[[none] 0..0] 1..1] 1..1] 1..1] 1..1] 1..1")

    def test_many_values(self):
        source = random.Random(5)
        for _ in range(400):
            text = some_value(source)
            told_text = least_of(text)
            self.assertEqual(run(shape(0, told_text))[0], [1], text)
            self.assertTrue(does_fit(text, told_text), text)


class JoinedTest(unittest.TestCase):
    """What is made by joining is of the same form as what is read."""

    def test_many_joined_shapes(self):
        source = random.Random(6)
        for _ in range(300):
            values = [read_value(bytes_of(some_value(source))) for _ in range(3)]
            one, two, three = [least_shape(item) for item in values]
            whole = joined(joined(one, two), three)
            self.assertEqual(whole, joined(three, joined(two, one)))
            self.assertEqual(whole, joined(joined(two, three), one))
            self.assertEqual(whole, joined(whole, one))
            self.assertEqual(whole, joined(whole, {}))
            self.assertEqual(whole, joined({}, whole))
            if nodes_of(whole) <= 60:
                self.assertEqual(read_shape(shape_text(whole)), whole)


if __name__ == "__main__":
    unittest.main()
