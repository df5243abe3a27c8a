"""The interface: how calls are handed in, and how answers are given back."""

import unittest

from looseshapes.shapes import answers
from tests.helper import bytes_of, fits, least, list_of, run, shape, show, told, value

FAR = 1000000000000000000


class InterfaceTest(unittest.TestCase):
    def test_how_answers_are_written(self):
        calls = value("[1]") + show() + shape(0, "null") + told(0) + fits(0) + value("[") + told(-1) + least()
        least_text = bytes_of("[num 1..1] 1..1")
        self.assertEqual(
            answers(calls),
            [2, 2, 2]
            + [4, 3, 91, 49, 93]
            + [1, 1]
            + [5, 4, 110, 117, 108, 108]
            + [1, 0]
            + [1, -1]
            + [1, -2]
            + [1 + len(least_text), len(least_text)] + least_text,
        )

    def test_each_call_alone(self):
        self.assertEqual(answers([0, 0]), [1, -1])
        self.assertEqual(answers([0, 1, 48]), [2, 1, 1])
        self.assertEqual(answers([1]), [5, 4, 110, 117, 108, 108])
        self.assertEqual(answers([2, 0, 0]), [1, -1])
        self.assertEqual(answers([2, 0, 4, 98, 111, 111, 108]), [1, 1])
        self.assertEqual(answers([3, 0]), [5, 4, 110, 111, 110, 101])
        self.assertEqual(answers([4]), [5, 4, 110, 117, 108, 108])
        self.assertEqual(answers([5, 0]), [1, 0])

    def test_eighty_calls(self):
        calls = []
        expected = []
        for k in range(16):
            calls += [value(str(k)), shape(k % 4, f"num 0..{k}"), fits(k % 4), fits((k + 1) % 4), told(4 + k)]
            expected += [[1, 1], [1], [1], [0], [-2]]
        self.assertEqual(len(calls), 80)
        self.assertEqual(run(*calls), expected)

    def test_places_that_are_far_off(self):
        for k in (FAR, -FAR):
            self.assertEqual(answers([2, k, 1, 48] + [2, k, 4, 98, 111, 111, 108] + [3, k] + [5, k]), [1, -2] * 4)

    def test_the_longest_texts(self):
        for text in ([48] * 6000, [91] * 6000, [123] * 6000, [34] + [97] * 5999, [45] * 6000, [0] * 6000, [255] * 6000):
            self.assertEqual(answers([0, 6000] + text + [2, 0, 6000] + text + [1]), [1, -1, 1, -1, 5, 4, 110, 117, 108, 108])

    def test_the_longest_value_that_is_held(self):
        full = '"' + "\\\\" * 20 + '"'
        tens = list_of([full] * 10)
        text = list_of([tens] * 5 + [full] * 4)
        given = run(value(text), show(), least())
        self.assertEqual(given[0], [60, 3])
        self.assertEqual(given[1], [len(text)] + bytes_of(text))

    def test_what_is_handed_in_stays_as_it_was(self):
        calls = value('{a: [1, "x"], b: null}') + shape(0, "{a?: (null)} 0..1") + show() + told(0) + least() + fits(0) + value("x")
        before = list(calls)
        given = answers(calls)
        self.assertEqual(calls, before)
        given[:] = [0] * len(given)
        self.assertEqual(calls, before)

    def test_nothing_is_kept(self):
        calls = value("[1, 2]") + shape(0, "null") + shape(1, "[num 1..2] 1..3") + told(0) + fits(1) + show()
        first = answers(calls)
        self.assertEqual(answers(show() + told(0) + told(1) + least()), answers(show() + told(2) + told(3) + least()))
        self.assertEqual(answers(calls), first)
        first.append(7)
        self.assertEqual(answers(calls), first[:-1])

    def test_whole_numbers_alone_are_answered(self):
        given = answers(value("true") + show() + shape(0, "bool") + shape(0, "bool") + told(0) + least() + fits(0) + fits(1))
        self.assertIs(type(given), list)
        self.assertEqual({type(number) for number in given}, {int})


if __name__ == "__main__":
    unittest.main()
