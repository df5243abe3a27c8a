"""Promise 3: shape."""

import itertools
import unittest
from unittest import mock

from looseshapes.refusals import NoPlace, TooLarge
from looseshapes.shapereading import read_shape
from looseshapes.shapes import Holder
from tests.helper import NO_PLACE, REFUSED_TEXT, bytes_of, nested, run, shape, text_in, told, told_all

PARTS = (
    "null",
    "bool",
    "num -5..7",
    'text "a" "b"',
    "[null] 0..3",
    "{a: (null), b?: (bool)} 1..2",
)
DICT = "dict 1..4 s 0..3 (null)"


class ShapeTestCase(unittest.TestCase):
    def assert_shape(self, text):
        given = run(shape(1, text), told(1))
        self.assertEqual(given[0], [0] if text == "none" else [1], text)
        self.assertEqual(text_in(given[1]), text)

    def assert_refused(self, text):
        self.assertEqual(run(shape(1, text)), [REFUSED_TEXT], text)

    def assert_just(self, good, bad):
        for text in good:
            self.assert_shape(text)
        for text in bad:
            self.assert_refused(text)


class PlaceTest(ShapeTestCase):
    def test_places(self):
        for k in (0, 1, 2, 3):
            self.assertEqual(run(shape(k, "null")), [[1]])
        for k in (-1, 4, 5, -2, 1000000000000000000, -1000000000000000000):
            self.assertEqual(run(shape(k, "null")), [NO_PLACE])

    def test_the_place_is_looked_at_ahead_of_the_text(self):
        self.assertEqual(run(shape(4, ""), shape(-1, "nul"), shape(0, "nul")), [NO_PLACE, NO_PLACE, REFUSED_TEXT])

    def test_one_if_it_is_another_shape(self):
        calls = (
            (shape(0, "none"), 0),
            (shape(0, "null"), 1),
            (shape(0, "null"), 0),
            (shape(1, "null"), 1),
            (shape(0, "null | bool"), 1),
            (shape(0, "null"), 1),
            (shape(0, "none"), 1),
            (shape(0, "none"), 0),
            (shape(2, "{a: (num 1..2)} 1..1"), 1),
            (shape(2, "{a: (num 1..2)} 1..1"), 0),
            (shape(2, "{a: (num 1..3)} 1..1"), 1),
            (shape(2, "{a?: (num 1..3)} 0..1"), 1),
            (shape(2, "{b?: (num 1..3)} 0..1"), 1),
            (shape(2, "dict 1..2 s 0..1 (num 1..3)"), 1),
            (shape(2, "dict 1..2 s 0..1 (num 1..3)"), 0),
            (shape(2, "dict 1..2 ds 0..1 (num 1..3)"), 1),
            (shape(3, 'text "a"'), 1),
            (shape(3, 'text "a"'), 0),
            (shape(3, 'text "a" "b"'), 1),
            (shape(3, "text 1..1 s"), 1),
            (shape(3, "text 1..2 s"), 1),
            (shape(3, "[text 1..2 s] 1..2"), 1),
            (shape(3, "[text 1..2 s] 1..2"), 0),
            (shape(3, "[text 1..2 s] 1..3"), 1),
            (shape(1, "null"), 0),
        )
        self.assertEqual(run(*[call for call, answer in calls]), [[answer] for call, answer in calls])

    def test_a_refused_call_leaves_the_place(self):
        given = run(shape(0, "bool"), shape(0, "bool |"), told(0), shape(0, "bool"), shape(7, "null"), told(0), told(3))
        self.assertEqual(given[1], REFUSED_TEXT)
        self.assertEqual(text_in(given[2]), "bool")
        self.assertEqual(given[3:5], [[0], NO_PLACE])
        self.assertEqual(text_in(given[5]), "bool")
        self.assertEqual(text_in(given[6]), "none")


class PutTest(unittest.TestCase):
    def wide(self, count):
        """A shape with so many nodes, more than a text may tell."""
        fields = [((97 + k,), True, {"null": True}) for k in range(count - 1)]
        return {"record": ("told", fields, (count - 1, count - 1))}

    def test_too_many_nodes(self):
        holder = Holder()
        self.assertTrue(holder.put(0, self.wide(60)))
        with self.assertRaises(TooLarge):
            holder.put(0, self.wide(61))
        self.assertEqual(holder.shape_at(0), self.wide(60))
        self.assertFalse(holder.put(0, self.wide(60)))

    def test_too_many_nodes_are_answered(self):
        with mock.patch("looseshapes.shapes.read_shape", return_value=self.wide(61)):
            given = run(shape(0, "null"), told(0), shape(4, "null"))
        self.assertEqual(given[0], [-7])
        self.assertEqual(text_in(given[1]), "none")
        self.assertEqual(given[2], NO_PLACE)

    def test_no_such_place(self):
        with self.assertRaises(NoPlace):
            Holder().put(4, read_shape(bytes_of("null")))


class PartsTest(ShapeTestCase):
    def test_each_alone_and_several_in_order(self):
        for count in range(1, len(PARTS) + 1):
            for parts in itertools.combinations(PARTS, count):
                self.assert_shape(" | ".join(parts))
        for count in range(len(PARTS)):
            for parts in itertools.combinations(PARTS[:-1], count):
                self.assert_shape(" | ".join(parts + (DICT,)))
        self.assert_shape("none")

    def test_out_of_order_or_twice(self):
        for one, other in itertools.permutations(PARTS + (DICT,), 2):
            later = PARTS.index(one) >= PARTS.index(other) if DICT not in (one, other) else one == DICT
            if later or (one, other) == (PARTS[-1], DICT):
                self.assert_refused(one + " | " + other)
        for part in PARTS + (DICT,):
            self.assert_refused(part + " | " + part)
            self.assert_refused("null | " + part + " | null")
        self.assert_refused("null | num 1..2 | bool")

    def test_nothing_between(self):
        for one, other in itertools.combinations(PARTS + (DICT,), 2):
            for between in ("", " ", "|", " |", "| ", ", ", "  | ", " |  ", " | | "):
                self.assert_refused(one + between + other)

    def test_none_stands_alone(self):
        for part in PARTS + (DICT,):
            self.assert_refused("none | " + part)
            self.assert_refused(part + " | none")
        self.assert_refused("none | none")

    def test_what_is_written_otherwise(self):
        for text in ("", " ", "null ", " null", "null|bool", "null |bool", "null| bool", "null  | bool", "null |  bool",
                     "null | ", "| null", " | null", "null | |", "nul", "nulls", "bool1", "true", "Null", "nonee", "non",
                     "num", "text", "dict", "null\n", "null bool", "null, bool", "(null)", "(none)", "list", "[]", "{}"):
            self.assert_refused(text)
        self.assert_refused([110, 117, 108, 108, 0])
        self.assert_refused([255])

    def test_every_shortened_text_is_refused(self):
        for part in PARTS + (DICT,):
            if part in ("num -5..7", 'text "a" "b"'):
                continue
            for length in range(len(part)):
                self.assert_refused(part[:length])


class NumTest(ShapeTestCase):
    def test_spans(self):
        self.assert_just(
            ("num 0..0", "num -1000000000..1000000000", "num -3..-2", "num 5..5", "num -1..0", "num 1000000000..1000000000",
             "num -1000000000..-1000000000"),
            ("num 1..0", "num -2..-3", "num -1000000001..0", "num 0..1000000001", "num 0", "num 0..", "num ..0",
             "num 0...1", "num 0.1", "num 0 .. 1", "num 0.. 1", "num  0..1", "num0..1", "num 00..1", "num 0..01",
             "num -0..1", "num -1..-0", "num a..b", "num 0..1 ", "num +0..1", "num 0..99999999999", "num 0..1..2",
             "num -..1", "num 0,1", "num 0.." + "1" * 5000),
        )


class WordsTest(ShapeTestCase):
    def test_words(self):
        twenty = '"' + "w" * 20 + '"'
        self.assert_just(
            ('text ""', 'text "a"', 'text "" "a"', 'text "a" "aa" "b" "c"', "text " + twenty, 'text " "', 'text "B" "a"',
             'text "\\"" "\\\\"', 'text "10" "9"', 'text "" " " "  " "   "', 'text "a|b"', 'text "a" | [null] 0..1'),
            ('text "b" "a"', 'text "a" "a"', 'text "aa" "a"', 'text "" ""', 'text "a" "B"', 'text "\\\\" "\\""',
             'text "a" "b" "c" "d" "e"', 'text "a" "c" "b"', 'text "a"  "b"', 'text "a", "b"', 'text "a""b"', 'text "a" ',
             'text  "a"', 'text"a"', "text a", 'text "a', 'text "\\a"', 'text "a" b', 'text "a" 1..2 s', 'text 1..2 s "a"',
             "text " + '"' + "w" * 21 + '"', 'text "a" "b" "c" "' + "w" * 21 + '"'),
        )

    def test_no_sign_within_a_word(self):
        for byte in (0, 9, 10, 31, 127, 128, 255):
            self.assert_refused(bytes_of('text "') + [byte, 34])


class WideTest(ShapeTestCase):
    def test_lengths(self):
        self.assert_just(
            ("text 0..1 d", "text 0..20 o", "text 1..1 s", "text 20..20 g", "text 3..9 sg"),
            ("text 0..0 d", "text 0..21 d", "text 21..21 d", "text -1..3 d", "text 3..2 d", "text 1 d", "text 1.. d",
             "text 01..2 d", "text 1..02 d", "text 1..2", "text 1..2 ", "text 1..2d", "text 1..2  d", "text 1..-2 d",
             "text -0..1 d", "text d", "text ..2 d"),
        )

    def test_classes_in_their_order(self):
        for count in range(1, 6):
            for classes in itertools.permutations("dsgbo", count):
                text = "text 0..8 " + "".join(classes)
                if list(classes) == sorted(classes, key="dsgbo".index):
                    self.assert_shape(text)
                else:
                    self.assert_refused(text)
        for classes in ("dd", "ss", "dsd", "x", "D", "dx", "d s", "d, s", "d ", "bb"):
            self.assert_refused("text 0..8 " + classes)

    def test_the_blank_alone(self):
        self.assert_just(
            ("text 0..4 b", "text 16..20 b", "text 3..8 b", "text 0..20 b", "text 3..3 db", "text 3..4 bo", "text 1..1 sb"),
            ("text 0..3 b", "text 17..20 b", "text 1..1 b", "text 20..20 b", "text 5..8 b", "text 0..1 b"),
        )


class ListTest(ShapeTestCase):
    def test_spans(self):
        self.assert_just(
            ("[null] 0..1", "[null] 0..10", "[null] 10..10", "[null | bool] 2..5", '[text "]"] 1..1', "[[null] 1..1] 1..2"),
            ("[null] 0..11", "[null] 11..11", "[null] -1..2", "[null] 2..1", "[null] 1", "[null]", "[null] ", "[null]1..2",
             "[null]  1..2", "[ null] 1..2", "[null ] 1..2", "[] 1..2", "[null 1..2", "null] 1..2", "[(null)] 1..2",
             "[null, bool] 1..2", "[null] 01..2", "[null} 1..2", "[null) 1..2"),
        )

    def test_none_just_if_the_span_is_zero(self):
        self.assert_just(
            ("[none] 0..0", "null | [none] 0..0 | {} 0..0"),
            ("[null] 0..0", "[none] 0..1", "[none] 1..1", "[none] 0..10", "[] 0..0", "[[none] 0..0] 0..0", "[none]"),
        )


class ToldFieldsTest(ShapeTestCase):
    def test_how_they_are_written(self):
        self.assert_just(
            ("{} 0..0", "{a: (null)} 1..1", "{a?: (null)} 0..1", "{a: (null), b: (bool)} 2..2",
             "{abcdefghi9: (null | num 1..2)} 1..1", '{a: (text ")}")} 1..1', "{a: ({} 0..0)} 1..1"),
            ("{a: null} 1..1", "{a:(null)} 1..1", "{a : (null)} 1..1", "{a: (null) } 1..1", "{ a: (null)} 1..1",
             "{a: ( null)} 1..1", "{a: (null )} 1..1", "{a: (null)}1..1", "{a: (null)} 1", "{a: (null)}", "{ } 0..0",
             "{a: (null),b: (null)} 2..2", "{a: (null) b: (null)} 2..2", "{a: (null), } 1..1", "{a: (null),} 1..1",
             "{a ?: (null)} 0..1", "{a? : (null)} 0..1", "{a??: (null)} 0..1", "{?a: (null)} 0..1", "{a:? (null)} 0..1",
             "{A: (null)} 1..1", "{1: (null)} 1..1", "{abcdefghijk: (null)} 1..1", "{: (null)} 1..1", '{"a": (null)} 1..1',
             "{a: ()} 1..1", "{a: (none)} 1..1", "{a?: (none)} 0..1", "{a: (null} 1..1", "{a: (null)) 1..1", "{a} 1..1",
             "{a: (null)] 1..1", "{a: (null)} 01..1", "{a: (null)} 1..1 "),
        )

    def test_names_rise(self):
        self.assert_just(
            ("{a: (null), aa: (null), b: (null)} 3..3", "{a10: (null), a2: (null)} 2..2", "{a0: (null), aa: (null)} 2..2"),
            ("{b: (null), a: (null)} 2..2", "{a: (null), a: (null)} 2..2", "{a: (null), a?: (null)} 1..2",
             "{aa: (null), a: (null)} 2..2", "{a: (null), c: (null), b: (null)} 3..3"),
        )

    def test_at_most_eight(self):
        eight = ", ".join(f"{name}: (null)" for name in "abcdefgh")
        self.assert_shape("{" + eight + "} 8..8")
        self.assert_refused("{" + eight + ", i: (null)} 9..9")
        self.assert_refused("{" + eight + ", i: (null)} 8..8")
        free = eight.replace(":", "?:")
        self.assert_shape("{" + free + "} 0..8")
        self.assert_refused("{" + free + ", i?: (null)} 0..9")
        self.assert_refused("{" + free + ", i?: (null)} 0..8")

    def test_needed_and_free_against_the_span(self):
        names = "abcd"
        for told_count in range(5):
            for needed in range(told_count + 1):
                fields = [names[k] + (": (null)" if k < needed else "?: (null)") for k in range(told_count)]
                for first in range(-1, 6):
                    for second in range(-1, 6):
                        good = needed <= first <= second <= told_count
                        if first == told_count or second == needed:
                            good = good and needed == told_count
                        text = "{" + ", ".join(fields) + "} " + f"{first}..{second}"
                        if good:
                            self.assert_shape(text)
                        else:
                            self.assert_refused(text)


class DictTest(ShapeTestCase):
    def test_how_it_is_written(self):
        self.assert_just(
            ("dict 1..1 s 9..9 (num 1..1)", "dict 2..10 ds 0..16 (null | bool)", "dict 1..3 s 0..1 (dict 1..1 s 1..1 (null))"),
            ("dict", "dict ", "dict 1..1 s 1..1", "dict 1..1 s 1..1 null", "dict 1..1 s 1..1(null)", "dict 1..1 s 1..1  (null)",
             "dict 1..1 s  1..1 (null)", "dict 1..1  s 1..1 (null)", "dict  1..1 s 1..1 (null)", "dict1..1 s 1..1 (null)",
             "dict 1..1 s (null)", "dict 1..1 1..1 (null)", "dict s 1..1 (null)", "dict 1..1 s 1..1 ( null)",
             "dict 1..1 s 1..1 (null) ", "dict 1..1 s 1..1 (null", 'dict "a" 1..1 (null)', "dict 1..1 s1..1 (null)",
             "{dict 1..1 s 1..1 (null)}", "dict 1..1 s 1..1 (none)", "dict 1..1 s 1..1 ()", "dict 1..1 s 0..1 (none)"),
        )

    def test_pattern(self):
        self.assert_just(
            ("dict 1..10 s 1..1 (null)", "dict 10..10 s 1..1 (null)", "dict 1..2 ds 1..1 (null)", "dict 2..2 ds 1..1 (null)",
             "dict 10..10 ds 1..1 (null)"),
            ("dict 0..10 s 1..1 (null)", "dict 1..11 s 1..1 (null)", "dict 11..11 s 1..1 (null)", "dict 1..1 ds 1..1 (null)",
             "dict 3..2 s 1..1 (null)", "dict 1..2 sd 1..1 (null)", "dict -1..2 s 1..1 (null)", "dict 0..2 ds 1..1 (null)"),
        )
        for count in range(6):
            for classes in itertools.combinations("dsgbo", count):
                text = "dict 1..9 " + "".join(classes) + " 1..2 (null)"
                if "".join(classes) in ("s", "ds"):
                    self.assert_shape(text)
                else:
                    self.assert_refused(text)

    def test_span(self):
        self.assert_just(
            ("dict 1..1 s 0..1 (null)", "dict 1..1 s 0..16 (null)", "dict 1..1 s 16..16 (null)", "dict 1..1 s 1..1 (null)"),
            ("dict 1..1 s 0..0 (null)", "dict 1..1 s 0..17 (null)", "dict 1..1 s 17..17 (null)", "dict 1..1 s -1..1 (null)",
             "dict 1..1 s 2..1 (null)", "dict 1..1 s 1 (null)"),
        )


class LimitsTest(ShapeTestCase):
    def empty_lists(self, deep):
        """Lists within lists, so deep, the innermost one empty."""
        text = "[none] 0..0"
        for _ in range(deep - 1):
            text = "[" + text + "] 1..1"
        return text

    def test_depth(self):
        self.assert_just(
            (nested("[", "null", "] 1..1", 5), self.empty_lists(6), nested("{a: (", "null", ")} 1..1", 5),
             nested("{a: (", "{} 0..0", ")} 1..1", 5), nested("dict 1..1 s 1..1 (", "null", ")", 5),
             nested("dict 1..1 s 1..1 (", "[none] 0..0", ")", 5),
             "null | " + nested("[", "bool", "] 0..1", 5) + " | {a: (null)} 1..1"),
            (nested("[", "null", "] 1..1", 6), self.empty_lists(7), nested("{a: (", "null", ")} 1..1", 6),
             nested("{a: (", "{} 0..0", ")} 1..1", 6), nested("dict 1..1 s 1..1 (", "null", ")", 6),
             nested("dict 1..1 s 1..1 (", "[none] 0..0", ")", 6),
             "null | " + nested("[", "bool", "] 0..1", 6) + " | {a: (null)} 1..1"),
        )

    def test_very_deep_texts_are_refused_as_well(self):
        for text in ("[" * 6000, "{a: (" * 1200, "dict 1..1 s 1..1 (" * 333, self.empty_lists(600)):
            self.assert_refused(text)

    def test_nodes(self):
        one = "null | bool | num 1..2"
        nine = told_all([one] * 8)
        two = "[null] 1..1"
        three = "[[null] 1..1] 1..1"
        for text in (three, "[null] 0..1 | {a?: (bool)} 0..1", "dict 1..1 s 1..1 ([null] 1..1)",
                     "[[[none] 0..0] 1..1] 1..1", "[none] 0..0 | {a: (null), b: (null)} 2..2"):
            self.assert_shape(told_all([nine] * 6 + [two, text]))
            self.assert_refused(told_all([nine] * 6 + [three, text]))
        self.assert_refused(told_all([nine] * 7))
        self.assert_refused(told_all([nine] * 8))

    def test_too_many_nodes_leave_the_place(self):
        nine = told_all(["null"] * 8)
        given = run(shape(0, nine), shape(0, told_all([nine] * 7)), told(0))
        self.assertEqual(given[:2], [[1], REFUSED_TEXT])
        self.assertEqual(text_in(given[2]), nine)


if __name__ == "__main__":
    unittest.main()
