"""Promise 8: join."""

import itertools
import random
import unittest

from looseshapes.forms import nodes_of
from looseshapes.joining import joined
from looseshapes.shapereading import read_shape
from tests.helper import (
    NOT_PLACES, NO_PLACE, TOO_LARGE, bytes_of, does_fit, is_within, join, joined_of, run, shape, show, size, some_shape,
    some_value, text_in, told, told_all, value,
)

PARTS = ("null", "bool", "num 1..2", 'text "a"', "[null] 1..1", "{a: (null)} 1..1")
DICT = "dict 1..1 s 1..1 (null)"


class JoinTestCase(unittest.TestCase):
    def assert_joined(self, one, other, expected):
        """Joined in either order, these shapes give this one, and it lets in what they do."""
        self.assertEqual(joined_of(one, other), expected)
        self.assertEqual(joined_of(other, one), expected)
        self.assertTrue(is_within(one, expected) and is_within(other, expected), (one, other))
        self.assertEqual(joined_of(one, expected), expected)
        self.assertEqual(joined_of(expected, other), expected)

    def assert_all_joined(self, shapes, expected):
        """Joined in any order, these three shapes give this one."""
        for one, two, three in itertools.permutations(shapes):
            given = run(shape(0, one), shape(1, two), shape(2, three), join(0, 1, 3), join(3, 2, 3), told(3),
                        join(1, 2, 3), join(0, 3, 3), told(3))
            self.assertEqual(text_in(given[5]), expected, shapes)
            self.assertEqual(text_in(given[8]), expected, shapes)


class CallTest(JoinTestCase):
    def told_after(self, *calls):
        given = run(*calls, told(0), told(1), told(2), told(3))
        return given[:-4], [text_in(answer) for answer in given[-4:]]

    def test_no_place(self):
        for k in NOT_PLACES:
            self.assertEqual(run(join(k, 0, 1), join(0, k, 1), join(0, 1, k), join(k, k, k)), [NO_PLACE] * 4)

    def test_a_refused_call_changes_nothing(self):
        shapes = (shape(0, "null"), shape(1, "bool"), shape(2, "num 1..1"))
        for k in NOT_PLACES:
            given, texts = self.told_after(*shapes, value("[1]"), join(k, 0, 1), join(0, k, 1), join(0, 1, k), show())
            self.assertEqual(given[4:7], [NO_PLACE] * 3)
            self.assertEqual(text_in(given[7]), "[1]")
            self.assertEqual(texts, ["null", "bool", "num 1..1", "none"])

    def test_different_places(self):
        shapes = (shape(0, "null"), shape(1, "bool"), shape(2, "num 1..1"), shape(3, 'text "a"'))
        for k, j, m in itertools.permutations(range(4), 3):
            given, texts = self.told_after(*shapes, join(k, j, m))
            expected = ["null", "bool", "num 1..1", 'text "a"']
            expected[m] = " | ".join(expected[place] for place in sorted((k, j)))
            self.assertEqual(given[4], [1])
            self.assertEqual(texts, expected)

    def test_the_same_place(self):
        shapes = (shape(0, "null"), shape(1, "bool"))
        for call, answer, texts in (
            (join(0, 0, 0), 0, ["null", "bool", "none", "none"]),
            (join(2, 2, 2), 0, ["null", "bool", "none", "none"]),
            (join(0, 0, 1), 1, ["null", "null", "none", "none"]),
            (join(0, 0, 3), 1, ["null", "bool", "none", "null"]),
            (join(0, 1, 0), 1, ["null | bool", "bool", "none", "none"]),
            (join(0, 1, 1), 1, ["null", "null | bool", "none", "none"]),
            (join(1, 0, 0), 1, ["null | bool", "bool", "none", "none"]),
            (join(1, 0, 1), 1, ["null", "null | bool", "none", "none"]),
        ):
            given, told_texts = self.told_after(*shapes, call)
            self.assertEqual(given[2], [answer], call)
            self.assertEqual(told_texts, texts, call)

    def test_with_none(self):
        calls = (
            (join(0, 1, 2), 0), (join(3, 3, 3), 0), (shape(0, "null | {a: (bool)} 1..1"), 1), (join(0, 1, 2), 1),
            (join(1, 0, 2), 0), (join(1, 3, 2), 1), (join(1, 0, 2), 1), (join(1, 1, 0), 1), (join(0, 1, 0), 0),
            (join(1, 2, 2), 0), (join(2, 1, 0), 1),
        )
        given, texts = self.told_after(*[call for call, answer in calls])
        self.assertEqual(given, [[answer] for call, answer in calls])
        self.assertEqual(texts, ["null | {a: (bool)} 1..1", "none", "null | {a: (bool)} 1..1", "none"])
        for text in PARTS + (DICT, "none"):
            self.assert_joined(text, "none", text)

    def test_one_if_another_shape_stands_there(self):
        given = run(shape(0, "num 1..5"), shape(1, "num 2..3"), join(0, 1, 0), join(0, 1, 1), join(0, 1, 1), join(0, 1, 2),
                    shape(3, "num 1..6"), join(0, 1, 3), join(0, 1, 3))
        self.assertEqual(given, [[1], [1], [0], [1], [0], [1], [1], [1], [0]])

    def test_the_same_shape_made_otherwise(self):
        pairs = (
            ("{a: (null), b?: (num 1..2)} 1..2", "{a: (null)} 1..1", "{a: (null), b: (num 1..2)} 2..2"),
            ('text "a" "b" "c"', 'text "a" "c"', 'text "b"'),
            ("text 0..3 ds", 'text "" "1" "2" "3"', 'text "abc"'),
            ("dict 1..1 s 4..5 (null)", told_all(["null"] * 5), told_all(["null"] * 4, "wxyz")),
            ("[null | bool] 0..3", "[bool] 0..3", "[null] 1..1"),
            ("null | bool | [none] 0..0", "bool | [none] 0..0", "null"),
        )
        for whole, one, other in pairs:
            self.assertEqual(run(shape(0, whole), shape(1, one), shape(2, other), join(1, 2, 0))[3], [0], whole)

    def test_what_was_joined_stays(self):
        given, texts = self.told_after(shape(0, "[num 1..1] 1..1"), shape(1, "[bool] 2..2"), join(0, 1, 2), join(2, 0, 0),
                                       shape(3, "[null] 1..5"), join(3, 2, 3))
        both = "[bool | num 1..1] 1..2"
        self.assertEqual(texts, [both, "[bool] 2..2", both, "[null | bool | num 1..1] 1..5"])


class PartsTest(JoinTestCase):
    def test_each_in_one_alone_and_in_both(self):
        for parts in (PARTS, PARTS[:-1] + (DICT,)):
            for count in range(1, 7):
                for chosen in itertools.combinations(parts, count):
                    others = [part for part in parts if part not in chosen]
                    self.assertEqual(joined_of(" | ".join(chosen), " | ".join(others) or "none"), " | ".join(parts))
                    self.assert_joined(" | ".join(chosen), " | ".join(parts), " | ".join(parts))

    def test_plain_parts(self):
        self.assert_joined("null", "null", "null")
        self.assert_joined("bool", "bool", "bool")
        self.assert_joined("null", "bool", "null | bool")
        self.assert_joined("null | num 1..1", "bool | num 2..2", "null | bool | num 1..2")

    def test_spans(self):
        self.assert_joined("num 1..3", "num 2..5", "num 1..5")
        self.assert_joined("num 1..2", "num 8..9", "num 1..9")
        self.assert_joined("num 1..9", "num 2..3", "num 1..9")
        self.assert_joined("num -5..-5", "num 5..5", "num -5..5")
        self.assert_joined("num -1000000000..-9", "num 10..1000000000", "num -1000000000..1000000000")
        self.assert_joined("num 4..4", "num 4..4", "num 4..4")


class PatternTest(JoinTestCase):
    def test_words_that_stay_words(self):
        self.assert_joined('text "a"', 'text "a"', 'text "a"')
        self.assert_joined('text "b"', 'text "a"', 'text "a" "b"')
        self.assert_joined('text "a" "c"', 'text "b" "d"', 'text "a" "b" "c" "d"')
        self.assert_joined('text "a" "b" "c"', 'text "b" "c" "d"', 'text "a" "b" "c" "d"')
        self.assert_joined('text "a" "b" "c" "d"', 'text "b" "d"', 'text "a" "b" "c" "d"')
        self.assert_joined('text "10" "9"', 'text "" "1"', 'text "" "1" "10" "9"')
        self.assert_joined('text "\\\\"', 'text "\\"" "A" "~"', 'text "\\"" "A" "\\\\" "~"')

    def test_words_that_become_open(self):
        self.assert_joined('text "a" "b" "c" "d"', 'text "e"', "text 1..1 s")
        self.assert_joined('text "a" "b" "c"', 'text "" "ZZ"', "text 0..2 sg")
        self.assert_joined('text "" " " "  " "   "', 'text "    "', "text 0..4 b")
        self.assert_joined('text "a" "bb" "c" "d"', 'text "1 ?" "a" "bb"', "text 1..3 dsbo")
        self.assert_joined('text "1" "2" "3" "4"', 'text "12345678901234567890" "5"', "text 1..20 d")

    def test_words_with_an_open_pattern(self):
        self.assert_joined('text "a"', "text 1..3 s", "text 1..3 s")
        self.assert_joined('text ""', "text 1..3 s", "text 0..3 s")
        self.assert_joined('text "ab1"', "text 1..2 g", "text 1..3 dsg")
        self.assert_joined('text "    "', "text 0..4 b", "text 0..4 b")
        self.assert_joined('text " x"', "text 5..9 b", "text 2..9 sb")
        self.assert_joined('text "A" "b" "c1" "~~~~"', "text 2..2 d", "text 1..4 dsgo")

    def test_two_open_patterns(self):
        self.assert_joined("text 1..3 s", "text 2..5 s", "text 1..5 s")
        self.assert_joined("text 1..1 o", "text 9..9 d", "text 1..9 do")
        self.assert_joined("text 0..4 b", "text 16..20 b", "text 0..20 b")
        self.assert_joined("text 1..2 sb", "text 1..2 dg", "text 1..2 dsgb")
        self.assert_joined("text 1..2 dsgbo", "text 3..7 b", "text 1..7 dsgbo")
        self.assert_joined("text 2..3 ds", "text 2..3 ds", "text 2..3 ds")


class ListTest(JoinTestCase):
    def test_lists(self):
        self.assert_joined("[null] 1..2", "[null] 4..5", "[null] 1..5")
        self.assert_joined("[null] 1..2", "[bool] 1..2", "[null | bool] 1..2")
        self.assert_joined("[num 1..1] 0..10", "[num 3..3 | [bool] 1..1] 3..3", "[num 1..3 | [bool] 1..1] 0..10")
        self.assert_joined("[[null] 1..1] 1..1", "[[bool] 2..2] 1..1", "[[null | bool] 1..2] 1..1")
        self.assert_joined('[text "a" "b" "c"] 3..3', '[text "c" "d" "e"] 3..3', "[text 1..1 s] 3..3")

    def test_empty_lists(self):
        self.assert_joined("[none] 0..0", "[none] 0..0", "[none] 0..0")
        self.assert_joined("[none] 0..0", "[null] 2..3", "[null] 0..3")
        self.assert_joined("[[none] 0..0] 1..1", "[[num 1..2] 1..1] 1..1", "[[num 1..2] 0..1] 1..1")
        self.assert_joined("[none] 0..0", "null", "null | [none] 0..0")


class RecordTest(JoinTestCase):
    def test_told_fields(self):
        self.assert_joined("{a: (null)} 1..1", "{a: (null)} 1..1", "{a: (null)} 1..1")
        self.assert_joined("{a: (null)} 1..1", "{a: (bool)} 1..1", "{a: (null | bool)} 1..1")
        self.assert_joined("{a: (num 1..1)} 1..1", "{a?: (num 4..5)} 0..1", "{a?: (num 1..5)} 0..1")
        self.assert_joined("{a?: (num 1..1)} 0..1", "{a?: (num 4..5)} 0..1", "{a?: (num 1..5)} 0..1")
        self.assert_joined("{a: (null)} 1..1", "{b: (null)} 1..1", "{a?: (null), b?: (null)} 1..1")
        self.assert_joined("{a: (null)} 1..1", "{} 0..0", "{a?: (null)} 0..1")
        self.assert_joined("{} 0..0", "{} 0..0", "{} 0..0")
        self.assert_joined("{a: (null), c: (null)} 2..2", "{b?: (bool), c: (bool)} 1..2",
                           "{a?: (null), b?: (bool), c: (null | bool)} 1..2")
        self.assert_joined("{a?: (null), b?: (null)} 1..1", "{a: (null), b: (null)} 2..2", "{a?: (null), b?: (null)} 1..2")
        self.assert_joined("{a: (null), b?: (null), c?: (null)} 2..2", "{b: (null), c: (null)} 2..2",
                           "{a?: (null), b?: (null), c?: (null)} 2..2")
        self.assert_joined("{a10: (null), b: (null)} 2..2", "{a: (null), a2: (null)} 2..2",
                           "{a?: (null), a10?: (null), a2?: (null), b?: (null)} 2..2")

    def test_records_in_one_alone(self):
        self.assert_joined("{a: (null)} 1..1", "bool", "bool | {a: (null)} 1..1")
        self.assert_joined("bool | {a: (null), b?: (bool)} 1..2", "null", "null | bool | {a: (null), b?: (bool)} 1..2")
        self.assert_joined(DICT, "bool", "bool | " + DICT)

    def test_eight_fields_together(self):
        free = ", ".join(f"{name}?: (null)" for name in "abcdefgh")
        self.assert_joined(told_all(["null"] * 5), told_all(["null"] * 3, "fgh"), "{" + free + "} 3..5")
        self.assert_joined(told_all(["null"] * 4), told_all(["null"] * 4, "efgh"), "{" + free + "} 4..4")
        eight = told_all(["null"] * 8)
        self.assert_joined(eight, eight, eight)
        self.assert_joined(eight, "{} 0..0", "{" + free + "} 0..8")
        self.assert_joined(eight, "{c: (bool)} 1..1",
                           "{" + free.replace("c?: (null)", "c: (null | bool)") + "} 1..8")

    def test_nine_fields_together(self):
        self.assert_joined(told_all(["null"] * 5), told_all(["null"] * 4, "fghi"), "dict 1..1 s 4..5 (null)")
        self.assert_joined(told_all(["null"] * 8), "{i: (bool)} 1..1", "dict 1..1 s 1..8 (null | bool)")
        self.assert_joined(told_all(["num 5..5"] * 8), "{a: (num 1..1), c345: (num 9..9)} 2..2", "dict 1..4 ds 2..8 (num 1..9)")
        self.assert_joined(told_all(["null"] * 8), told_all(["bool"] * 8, "hijklmno"), "dict 1..1 s 8..8 (null | bool)")
        self.assert_joined(told_all(["null"] * 8), "{abcdefghij?: (null)} 0..1", "dict 1..10 s 0..8 (null)")
        names = ("aa", "ab", "ac", "ad", "ae", "af", "ag", "ah")
        self.assert_joined(told_all(["null"] * 8, names), "{zzz: (null)} 1..1", "dict 2..3 s 1..8 (null)")
        self.assert_joined(told_all(['text "a"', 'text "b"', 'text "c"', 'text "d"', "null", "[none] 0..0", "{} 0..0", "bool"]),
                           "{i: ([{x: (null)} 1..1] 1..1 | {y: (null)} 1..1)} 1..1",
                           'dict 1..1 s 1..8 (null | bool | text "a" "b" "c" "d" | [{x: (null)} 1..1] 0..1 | {y?: (null)} 0..1)')

    def test_told_fields_with_a_dictionary(self):
        self.assert_joined("{a: (null)} 1..1", "dict 2..3 s 4..5 (bool)", "dict 1..3 s 1..5 (null | bool)")
        self.assert_joined("{a1: (null), bcde?: (num 1..1)} 1..2", "dict 1..1 s 1..1 (num 7..7)",
                           "dict 1..4 ds 1..2 (null | num 1..7)")
        self.assert_joined("{ab: (bool)} 1..1", "dict 1..3 ds 0..9 (bool)", "dict 1..3 ds 0..9 (bool)")
        self.assert_joined("{} 0..0", "dict 2..3 s 4..5 (bool)", "dict 2..3 s 0..5 (bool)")
        self.assert_joined("{a: (dict 1..1 s 1..1 (null))} 1..1", "dict 1..1 s 1..1 ({b: (bool)} 1..1)",
                           "dict 1..1 s 1..1 (dict 1..1 s 1..1 (null | bool))")
        self.assert_joined(told_all(["null"] * 8), "dict 1..1 s 16..16 (null)", "dict 1..1 s 8..16 (null)")

    def test_two_dictionaries(self):
        self.assert_joined("dict 1..2 s 1..2 (null)", "dict 4..5 s 7..9 (bool)", "dict 1..5 s 1..9 (null | bool)")
        self.assert_joined("dict 2..2 s 0..16 (num 1..1)", "dict 2..2 ds 1..1 (num 3..3)", "dict 2..2 ds 0..16 (num 1..3)")
        self.assert_joined("dict 1..10 s 3..3 (null)", "dict 1..10 s 3..3 (null)", "dict 1..10 s 3..3 (null)")


class NodesTest(JoinTestCase):
    def setUp(self):
        self.most = told_all([told_all(["null"] * 8)] * 6)

    def under_g(self, count):
        """A field with so many nodes: joined to those that have 55, it makes so many more."""
        return told_all([told_all(["null"] * (count - 1))], "g")

    def test_sixty_are_put(self):
        for count, nodes in ((4, 59), (5, 60)):
            given = run(shape(0, self.most), shape(1, self.under_g(count)), join(0, 1, 2), size(), join(1, 0, 0), size())
            self.assertEqual(given[2:], [[1], [1, 1, 55, 1 + count, nodes, 0], [1], [1, 1, nodes, 1 + count, nodes, 0]])

    def test_more_are_refused(self):
        for count in (6, 7, 9):
            for m in range(4):
                calls = (shape(0, self.most), shape(1, self.under_g(count)), shape(2, "bool"), value("[1]"))
                looks = (size(), show(), told(0), told(1), told(2), told(3))
                given = run(*calls, *looks, join(0, 1, m), join(1, 0, m), *looks)
                self.assertEqual(given[10:12], [TOO_LARGE] * 2)
                self.assertEqual(given[4:10], given[12:])

    def test_the_place_is_looked_at_ahead_of_the_nodes(self):
        calls = (shape(0, self.most), shape(1, self.under_g(6)))
        for m in NOT_PLACES:
            self.assertEqual(run(*calls, join(0, 1, m), join(0, m, 0), join(m, 1, 0))[2:], [NO_PLACE] * 3)

    def test_what_is_counted_is_what_was_joined(self):
        eight = told_all([told_all(["null"] * 7)] * 7)
        self.assertEqual(run(shape(0, eight), size())[1], [1, 1, 57, 0, 0, 0])
        given = run(shape(0, eight), shape(1, told_all([told_all(["null"] * 7)] * 7, "hijklmn")), join(0, 1, 2), size(), told(2))
        self.assertEqual(given[2:4], [[1], [1, 1, 57, 57, 9, 0]])
        self.assertEqual(text_in(given[4]), "dict 1..1 s 7..7 (" + told_all(["null"] * 7) + ")")


class OrderTest(JoinTestCase):
    def test_three_in_any_order(self):
        self.assert_all_joined(("null", "num 5..6", "bool | num 1..1"), "null | bool | num 1..6")
        self.assert_all_joined(('text "a" "b"', 'text "c" "d"', 'text "a" "e"'), "text 1..1 s")
        self.assert_all_joined(('text "a" "b"', 'text "c" "d"', 'text "a" "d"'), 'text "a" "b" "c" "d"')
        self.assert_all_joined(('text "a" "b" "c" "d"', 'text "EEE"', 'text "" "1"'), "text 0..3 dsg")
        self.assert_all_joined(('text "a" "b" "c"', 'text "e" "f"', "text 2..2 g"), "text 1..2 sg")
        self.assert_all_joined(("[none] 0..0", "[null] 2..2", "null | [bool] 1..1"), "null | [null | bool] 0..2")
        self.assert_all_joined(("{a: (null)} 1..1", "{a: (bool), b: (bool)} 2..2", "{c: (null)} 1..1"),
                               "{a?: (null | bool), b?: (bool), c?: (null)} 1..2")
        self.assert_all_joined(("{} 0..0", "{a: (null)} 1..1", "{a: (num 1..1)} 1..1"), "{a?: (null | num 1..1)} 0..1")

    def test_three_that_become_a_dictionary(self):
        three = [told_all(["num 1..1"] * 3), told_all(["null"] * 3, "def"), told_all(["[none] 0..0"] * 3, "ghi")]
        self.assert_all_joined(three, "dict 1..1 s 3..3 (null | num 1..1 | [none] 0..0)")
        self.assert_all_joined(three[:2] + ["dict 5..5 ds 7..9 (bool)"], "dict 1..5 ds 3..9 (null | bool | num 1..1)")
        self.assert_all_joined((told_all(["null"] * 6), told_all(["null"] * 3, ("a1", "b1", "c1")), "{} 0..0"),
                               "dict 1..2 ds 0..6 (null)")
        self.assert_all_joined((told_all(["null"] * 8), told_all(["bool"] * 8), "{zzzz: ([null] 2..2)} 1..1"),
                               "dict 1..4 s 1..8 (null | bool | [null] 2..2)")

    def test_many_shapes(self):
        source = random.Random(9)
        for _ in range(600):
            texts = [some_shape(source) for _ in range(3)]
            one, two, three = [read_shape(bytes_of(text)) for text in texts]
            whole = joined(joined(one, two), three)
            for left, middle, right in itertools.permutations((one, two, three)):
                self.assertEqual(joined(joined(left, middle), right), whole, texts)
                self.assertEqual(joined(left, joined(middle, right)), whole, texts)
            self.assertEqual(joined(whole, two), whole)
            given = run(shape(0, texts[0]), shape(1, texts[1]), join(0, 1, 2), told(2))
            if nodes_of(joined(one, two)) > 60:
                self.assertEqual(given[2:], [TOO_LARGE, [4] + bytes_of("none")])
            else:
                self.assertEqual(read_shape(given[3][1:]), joined(one, two))

    def test_what_fits_one_fits_the_joined_one(self):
        source = random.Random(10)
        met = 0
        for _ in range(1000):
            one, other, text = some_shape(source), some_shape(source), some_value(source, 3)
            if does_fit(text, one):
                met += 1
                self.assertTrue(does_fit(text, joined_of(one, other)), (text, one, other))
        self.assertGreater(met, 100)


if __name__ == "__main__":
    unittest.main()
