"""Promise 7: misfit."""

import random
import unittest

from tests.helper import (
    NOT_PLACES, NO_PLACE, does_fit, fits, list_of, misfit, misfit_of, record, run, shape, show, size, some_shape,
    some_value, text_in, told, value,
)

ONE_OF_EACH = ("null", "true", "false", "5", '"a"', "[]", "[5]", "{}", "{a: 5}")
ALL_BUT = {
    "null": "bool | num -9..9 | text 0..9 s | [num 5..5] 0..9 | {a?: (num 5..5)} 0..1",
    "bool": "null | num -9..9 | text 0..9 s | [num 5..5] 0..9 | {a?: (num 5..5)} 0..1",
    "num": "null | bool | text 0..9 s | [num 5..5] 0..9 | {a?: (num 5..5)} 0..1",
    "text": "null | bool | num -9..9 | [num 5..5] 0..9 | dict 1..9 s 0..9 (num 5..5)",
    "list": "null | bool | num -9..9 | text 0..9 s | dict 1..9 s 0..9 (num 5..5)",
    "record": "null | bool | num -9..9 | text 0..9 s | [num 5..5] 0..9",
}


class MisfitTestCase(unittest.TestCase):
    def assert_misfit(self, shape_text, value_text, reason, path):
        self.assertEqual(misfit_of(value_text, shape_text), (reason, path), (value_text, shape_text))
        self.assertFalse(does_fit(value_text, shape_text), (value_text, shape_text))

    def assert_fitting(self, shape_text, *value_texts):
        for text in value_texts:
            self.assertIsNone(misfit_of(text, shape_text), (text, shape_text))
            self.assertTrue(does_fit(text, shape_text), (text, shape_text))

    def assert_misfits(self, shape_text, cases):
        for value_text, expected in cases.items():
            if expected is None:
                self.assert_fitting(shape_text, value_text)
            else:
                self.assert_misfit(shape_text, value_text, *expected)


class CallTest(MisfitTestCase):
    def test_no_place(self):
        for k in NOT_PLACES:
            self.assertEqual(run(misfit(k)), [NO_PLACE])

    def test_on_a_new_object(self):
        for k in range(4):
            self.assertEqual(run(misfit(k)), [[1, 14, 1, 47]])

    def test_how_it_is_answered(self):
        given = run(shape(0, "null"), misfit(0), shape(3, "{a: (num 1..2)} 1..1"), misfit(3), value("{a: 3}"), misfit(3),
                    misfit(0), value("{a: [null]}"), misfit(3), value("{a: 2}"), misfit(3), misfit(2))
        self.assertEqual(given[1], [0])
        self.assertEqual(given[3], [1, 1, 1, 47])
        self.assertEqual(given[5], [1, 4, 2, 47, 97])
        self.assertEqual(given[6], [1, 9, 1, 47])
        self.assertEqual(given[8], [1, 7, 2, 47, 97])
        self.assertEqual(given[10], [0])
        self.assertEqual(given[11], [1, 14, 1, 47])

    def test_it_changes_nothing(self):
        given = run(value("[1]"), shape(1, "[bool] 0..1"), size(), misfit(1), misfit(1), misfit(7), size(), show(), told(1))
        self.assertEqual(given[3], [1, 3, 2, 47, 48])
        self.assertEqual(given[3], given[4])
        self.assertEqual(given[5], NO_PLACE)
        self.assertEqual(given[2], given[6])
        self.assertEqual([text_in(given[7]), text_in(given[8])], ["[1]", "[bool] 0..1"])


class PlainSortsTest(MisfitTestCase):
    def test_none(self):
        for text in ONE_OF_EACH:
            self.assert_misfit("none", text, 14, "/")

    def test_a_sort_that_is_not_let_in(self):
        cases = {"null": (1, "null"), "bool": (2, "true", "false"), "num": (3, "5", "-5"), "text": (5, '"a"', '""'),
                 "list": (7, "[]", "[5]"), "record": (9, "{}", "{a: 5}")}
        for sort, case in cases.items():
            for text in case[1:]:
                self.assert_misfit(ALL_BUT[sort], text, case[0], "/")
                for other in ALL_BUT:
                    if other != sort:
                        self.assert_fitting(ALL_BUT[other], text)

    def test_numbers(self):
        for text in ("-4", "8", "-1000000000", "1000000000"):
            self.assert_misfit("null | num -3..7", text, 4, "/")
        self.assert_fitting("num -3..7", "-3", "0", "7")
        self.assert_misfit("num 5..5", "4", 4, "/")
        self.assert_misfit("num 5..5", "6", 4, "/")

    def test_texts(self):
        for text in ('""', '"A"', '"c"', '"aa"'):
            self.assert_misfit('text "a" "b"', text, 6, "/")
        for text in ('"a"', '"aaaa"', '"a1"', '"aB"', '"a a"', '"a\\\\"'):
            self.assert_misfit("text 2..3 s | [null] 0..1", text, 6, "/")
        self.assert_fitting("text 2..3 s", '"ab"', '"abc"')
        self.assert_fitting('text "" "b"', '""', '"b"')


class ListTest(MisfitTestCase):
    def test_how_many_items(self):
        for text in ("[]", "[1, 1, 1]", list_of(["1"] * 10)):
            self.assert_misfit("[num 1..1] 1..2", text, 8, "/")
        self.assert_misfit("[none] 0..0", "[null]", 8, "/")
        self.assert_fitting("[none] 0..0", "[]")
        self.assert_fitting("[num 1..1] 1..2", "[1]", "[1, 1]")

    def test_the_span_comes_ahead_of_the_items(self):
        self.assert_misfit("[num 1..1] 1..2", "[null, null, null]", 8, "/")
        self.assert_misfit("[num 1..1] 2..3", "[2]", 8, "/")
        self.assert_misfit("[num 1..1] 1..2", "[1, 2]", 4, "/1")

    def test_the_first_item_that_has_one(self):
        self.assert_misfits("[num 1..1 | text 1..1 s] 0..10", {
            "[2, null, true]": (4, "/0"),
            "[1, null, true]": (1, "/1"),
            '[1, "a", true, null]': (2, "/2"),
            '[1, 1, 1, "A", 2]': (6, "/3"),
            list_of(["1"] * 9 + ["[]"]): (7, "/9"),
            list_of(["1"] * 9 + ["{}"]): (9, "/9"),
            list_of(["1"] * 10): None,
        })

    def test_lists_within_lists(self):
        self.assert_misfits("[null | [num 0..9] 1..2] 0..3", {
            "[[1], [1, 10]]": (4, "/1/1"),
            "[[1], []]": (8, "/1"),
            "[[1], null, [true]]": (2, "/2/0"),
            "[1]": (3, "/0"),
            "[[1, 2, 3], 5]": (8, "/0"),
            "[[1], null, [1, 2]]": None,
        })


class ToldFieldsTest(MisfitTestCase):
    def test_how_many_fields(self):
        self.assert_misfits("{a?: (null), b?: (null), c?: (null)} 1..2", {
            "{}": (10, "/"),
            "{a: null, b: null, c: null}": (10, "/"),
            "{c: null}": None,
            "{a: null, c: null}": None,
        })
        self.assert_misfit("{} 0..0", "{a: null}", 10, "/")
        self.assert_fitting("{} 0..0", "{}")

    def test_the_span_comes_ahead_of_the_fields(self):
        self.assert_misfit("{a: (null)} 1..1", "{}", 10, "/")
        self.assert_misfit("{a: (null)} 1..1", "{b: null, c: null}", 10, "/")
        self.assert_misfit("{a: (null), b: (null)} 2..2", "{a: 1}", 10, "/")
        self.assert_misfit("{a: (null), b?: (null), c?: (null)} 2..3", "{c: 1}", 10, "/")

    def test_the_first_by_name(self):
        self.assert_misfits("{b: (num 0..9), d: (num 0..9), f?: (null)} 2..3", {
            "{b: 1, d: 1}": None,
            "{b: 1, d: 1, f: null}": None,
            "{a: 1, b: 1, d: 1}": (12, "/a"),
            "{b: 1, c: 1, d: 1}": (12, "/c"),
            "{b: 1, d: 1, e: 1}": (12, "/e"),
            "{b: 1, d: 1, g: 1}": (12, "/g"),
            "{d: 1, f: null}": (11, "/b"),
            "{b: 1, f: null}": (11, "/d"),
            "{b: 1, f: 1}": (11, "/d"),
            "{b: 10, f: 1}": (4, "/b"),
            "{d: 10, f: 1}": (11, "/b"),
            "{a: 1, d: 10}": (12, "/a"),
            "{c: 1, d: 10}": (11, "/b"),
            "{b: 10, c: 1}": (4, "/b"),
            "{b: null, e: 1}": (1, "/b"),
            "{b: 1, c: 1, g: 1}": (12, "/c"),
            "{b: 1, e: 1}": (11, "/d"),
            "{b: 1, d: 10, e: 1}": (4, "/d"),
            "{b: 1, c: 1, d: 10}": (12, "/c"),
            "{b: 1, d: 1, f: []}": (7, "/f"),
            "{b: 1, d: true, f: []}": (2, "/d"),
            "{g: 1, h: 1}": (11, "/b"),
            "{a: 1, a0: 1}": (12, "/a"),
        })

    def test_a_needed_field_behind_a_free_one(self):
        self.assert_misfits("{a?: (null), y: (null)} 1..2", {
            "{y: null}": None,
            "{a: null}": (11, "/y"),
            "{a: 1}": (3, "/a"),
            "{a: null, b: null}": (12, "/b"),
            "{a: null, z: null}": (11, "/y"),
            "{x: null}": (12, "/x"),
            "{z: null}": (11, "/y"),
            "{y: 1, z: null}": (3, "/y"),
        })

    def test_names_that_others_begin_with(self):
        self.assert_misfits("{a0: (null), a9?: (null), aa: (null)} 2..3", {
            "{a0: null, aa: null}": None,
            "{a: null, a0: null}": (12, "/a"),
            "{a: 1, aa: 1}": (12, "/a"),
            "{a00: null, aa: null}": (11, "/a0"),
            "{a0: null, a00: null}": (12, "/a00"),
            "{a0: null, a9: 1}": (3, "/a9"),
            "{a0: null, b: null}": (11, "/aa"),
            "{a0: null, aa: null, aaa: null}": (12, "/aaa"),
        })

    def test_a_free_field_that_is_not_there(self):
        self.assert_fitting("{a?: (null), b?: (null), c?: (null)} 0..3", "{}", "{b: null}", "{a: null, c: null}")
        self.assert_misfit("{a?: (null), b?: (null), c?: (null)} 0..3", "{b: 1}", 3, "/b")
        self.assert_misfit("{a?: (null), b?: (null), c?: (null)} 0..3", "{bb: null}", 12, "/bb")


class DictTest(MisfitTestCase):
    def test_how_many_fields(self):
        self.assert_misfits("dict 2..3 s 1..3 (num 0..9)", {
            "{}": (10, "/"),
            "{aa: 1, bb: 1, cc: 1, dd: 1}": (10, "/"),
            "{a: null, b: null, c: null, d: null}": (10, "/"),
            "{aa: 1}": None,
            "{aa: 1, bb: 9, ccc: 0}": None,
        })
        self.assert_misfit("dict 1..1 s 16..16 (null)", record("abcdefghijklmno", "null"), 10, "/")

    def test_field_by_field(self):
        self.assert_misfits("dict 2..3 s 1..3 (num 0..9)", {
            "{a: 1}": (13, "/a"),
            "{aaaa: 1}": (13, "/aaaa"),
            "{aa: 1, b1: 1}": (13, "/b1"),
            "{aa: 10, b: 1}": (4, "/aa"),
            "{a: 1, bb: 10}": (13, "/a"),
            "{aa: 1, bb: 10, c: 1}": (4, "/bb"),
            "{aa: 1, b: 10, cc: null}": (13, "/b"),
            "{aa: 1, b: null}": (13, "/b"),
            "{aa: 1, bb: 1, cc: null}": (1, "/cc"),
            "{aa: [], bb: {}}": (7, "/aa"),
        })
        self.assert_fitting("dict 2..3 ds 1..3 (num 0..9)", "{aa: 1, b1: 1}")


class PathTest(MisfitTestCase):
    def test_several_steps(self):
        text = "{a: ([null | {b?: (text 1..2 s)} 0..1] 0..3), c?: (dict 1..2 s 0..2 ({d: (bool)} 1..1))} 1..2"
        self.assert_misfits(text, {
            '{a: [{}, null, {b: "xy"}], c: {ef: {d: true}}}': None,
            '{a: [{}, {b: "xyz"}]}': (6, "/a/1/b"),
            "{a: [{}, {b: []}]}": (7, "/a/1/b"),
            "{a: [{c: 1}]}": (12, "/a/0/c"),
            "{a: [{}, {b: null, c: 1}]}": (10, "/a/1"),
            "{a: [{}, {}, 1]}": (3, "/a/2"),
            "{a: [{}, {}, {}, {}]}": (8, "/a"),
            "{a: [], c: {e: {}}}": (10, "/c/e"),
            "{a: [], c: {e: {d: 1}}}": (3, "/c/e/d"),
            "{a: [], c: {e: {f: true}}}": (11, "/c/e/d"),
            "{a: [], c: {e1: {d: true}}}": (13, "/c/e1"),
            "{a: [], c: {e: {c: true}}}": (12, "/c/e/c"),
            "{a: [], c: {e: {d: true}, f: []}}": (7, "/c/f"),
        })

    def test_the_deepest(self):
        lists = "[[[[[num 1..1] 1..1] 1..1] 1..1] 1..1] 1..1"
        self.assert_misfit(lists, "[[[[[2]]]]]", 4, "/0/0/0/0/0")
        self.assert_misfit(lists, "[[[[1]]]]", 3, "/0/0/0/0")
        names = ("abcdefghij", "b234567890", "z", "abc", "zzzzzzzzz9")
        told_text, value_text = "null", "5"
        for name in reversed(names):
            told_text = "{" + name + ": (" + told_text + ")} 1..1"
            value_text = "{" + name + ": " + value_text + "}"
        self.assert_misfit(told_text, value_text, 3, "/" + "/".join(names))


class ManyTest(unittest.TestCase):
    def test_no_misfit_just_if_it_fits(self):
        source = random.Random(7)
        seen = {}
        for _ in range(1500):
            calls = [call for k in range(4) for call in (shape(k, some_shape(source)), fits(k), misfit(k))]
            given = run(value(some_value(source)), *calls)
            for k in range(4):
                does, answer = given[3 * k + 2], given[3 * k + 3]
                self.assertEqual(does == [1], answer == [0])
                seen[0 if answer == [0] else answer[1]] = True
        self.assertEqual(sorted(seen), list(range(14)))


if __name__ == "__main__":
    unittest.main()
