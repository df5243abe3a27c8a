"""The interface: how calls are handed in, and how answers are given back."""

import unittest

from looseshapes.shapes import answers
from tests.helper import (
    bytes_of, fits, join, learn, least, list_of, misfit, run, shape, show, size, told, told_all, value, within,
)

FAR = 1000000000000000000

ALL_ELEVEN = (
    value('{a: [1, "x"], b: null}'), show(), shape(0, "{a?: (null)} 0..1"), told(0), least(), fits(0), misfit(0), join(0, 1, 2),
    learn(2), within(0, 2), size(),
)


def flat(calls):
    return [number for call in calls for number in call]


class FrozenList(list):
    """A list that says so if it is changed, for a while too."""

    def changed(self, *args, **kwargs):
        raise AssertionError("what was handed in is changed")

    __setitem__ = __delitem__ = __iadd__ = __imul__ = changed
    append = extend = insert = pop = remove = clear = sort = reverse = changed


class InterfaceTest(unittest.TestCase):
    def test_how_answers_are_written(self):
        calls = value("[1]") + show() + shape(0, "null") + told(0) + fits(0) + value("[") + told(-1) + least()
        least_text = bytes_of("[num 1..1] 1..1")
        self.assertEqual(
            answers(calls),
            [2, 2, 2]
            + [4, 3, 91, 49, 93]
            + [1, 1]
            + [5, 4, 110, 117, 108, 108]
            + [1, 0]
            + [1, -1]
            + [1, -2]
            + [1 + len(least_text), len(least_text)] + least_text,
        )

    def test_each_call_alone(self):
        self.assertEqual(answers([0, 0]), [1, -1])
        self.assertEqual(answers([0, 1, 48]), [2, 1, 1])
        self.assertEqual(answers([1]), [5, 4, 110, 117, 108, 108])
        self.assertEqual(answers([2, 0, 0]), [1, -1])
        self.assertEqual(answers([2, 0, 4, 98, 111, 111, 108]), [1, 1])
        self.assertEqual(answers([3, 0]), [5, 4, 110, 111, 110, 101])
        self.assertEqual(answers([4]), [5, 4, 110, 117, 108, 108])
        self.assertEqual(answers([5, 0]), [1, 0])
        self.assertEqual(answers([6, 0]), [4, 1, 14, 1, 47])
        self.assertEqual(answers([7, 0, 1, 2]), [1, 0])
        self.assertEqual(answers([8, 3]), [1, 1])
        self.assertEqual(answers([9, 0, 1]), [1, 1])
        self.assertEqual(answers([10]), [6, 1, 1, 0, 0, 0, 0])

    def test_all_eleven_in_one_list(self):
        least_text = bytes_of('{a: ([num 1..1 | text "x"] 2..2), b: (null)} 2..2')
        self.assertEqual(
            answers(flat(ALL_ELEVEN)),
            [2, 5, 3]
            + [23, 22] + bytes_of('{a: [1, "x"], b: null}')
            + [1, 1]
            + [18, 17] + bytes_of("{a?: (null)} 0..1")
            + [1 + len(least_text), len(least_text)] + least_text
            + [1, 0]
            + [4, 1, 10, 1, 47]
            + [1, 1]
            + [1, 1]
            + [1, 1]
            + [6, 5, 3, 2, 0, 4, 0],
        )

    def test_the_numbers_come_in_their_order(self):
        given = run(shape(0, "null"), shape(1, "bool"), join(0, 1, 3), size(),
                    within(0, 3), within(3, 0), within(1, 2), within(2, 1))
        self.assertEqual(given[2:], [[1], [1, 1, 1, 1, 0, 1], [1], [0], [0], [1]])

    def test_eighty_calls(self):
        calls = []
        expected = []
        for k in range(8):
            place, other = k % 4, (k + 1) % 4
            calls += [value(str(k)), shape(place, f"num 0..{k}"), fits(place), fits(other), told(4 + k),
                      misfit(place), learn(place), within(place, place), join(place, place, place), size()]
            after = [0 if before > k else 1 for before in range(4)]
            expected += [[1, 1], [1], [1], [0], [-2], [0], [0], [1], [0], [1, 1] + after]
        self.assertEqual(len(calls), 80)
        self.assertEqual(run(*calls), expected)

    def test_eighty_of_each_call(self):
        for call in ALL_ELEVEN:
            given = run(*[call] * 80)
            self.assertEqual(len(given), 80)
            self.assertEqual(given[1:], given[1:2] * 79, call)

    def test_places_that_are_far_off(self):
        for k in (FAR, -FAR, FAR - 1, 1 - FAR):
            calls = ([2, k, 1, 48], [2, k, 4, 98, 111, 111, 108], [3, k], [5, k], [6, k], [7, k, 0, 0], [7, 0, k, 0],
                     [7, 0, 0, k], [7, k, k, k], [8, k], [9, k, 0], [9, 0, k], [9, k, -k])
            self.assertEqual(answers(flat(calls)), [1, -2] * len(calls))

    def test_the_longest_texts(self):
        for text in ([48] * 6000, [91] * 6000, [123] * 6000, [34] + [97] * 5999, [45] * 6000, [0] * 6000, [255] * 6000):
            self.assertEqual(answers([0, 6000] + text + [2, 0, 6000] + text + [1]), [1, -1, 1, -1, 5, 4, 110, 117, 108, 108])

    def test_the_longest_value_that_is_held(self):
        full = '"' + "\\\\" * 20 + '"'
        tens = list_of([full] * 10)
        text = list_of([tens] * 5 + [full] * 4)
        given = run(value(text), show(), least())
        self.assertEqual(given[0], [60, 3])
        self.assertEqual(given[1], [len(text)] + bytes_of(text))

    def test_the_longest_shape_that_is_told(self):
        words = " ".join('"' + sign * 19 + 'x"' for sign in ('\\"', "A", "B", "\\\\"))
        each = f"null | bool | num -1000000000..1000000000 | text {words}"
        names = [f"{letter}234567890" for letter in "abcdefgh"]
        nine = told_all([each] * 8, names)
        text = told_all([f"{each} | {nine}"] * 3, names)
        self.assertTrue(4000 < len(text) <= 6000)
        given = run(shape(0, text), told(0), join(0, 1, 2), told(2), within(0, 2))
        self.assertEqual(given, [[1], [len(text)] + bytes_of(text), [1], [len(text)] + bytes_of(text), [1]])

    def test_what_is_handed_in_stays_as_it_was(self):
        calls = flat(ALL_ELEVEN + (value("x"), join(0, 1, 1), learn(1), learn(7), shape(2, "bool |")))
        before = list(calls)
        given = answers(calls)
        self.assertEqual(calls, before)
        given[:] = [0] * len(given)
        self.assertEqual(calls, before)

    def test_what_is_handed_in_is_not_changed_for_a_while_either(self):
        calls = flat(ALL_ELEVEN + (value("x"), join(0, 1, 1), learn(1), learn(7), shape(2, "bool |")))
        self.assertEqual(answers(FrozenList(calls)), answers(calls))

    def test_nothing_is_kept(self):
        calls = value("[1, 2]") + shape(0, "null") + learn(1) + join(0, 1, 2) + told(0) + fits(1) + misfit(0) + show() + size()
        first = answers(calls)
        null, none = [5, 4] + bytes_of("null"), [5, 4] + bytes_of("none")
        fresh = answers(show() + told(0) + told(1) + told(2) + told(3) + least() + size())
        self.assertEqual(fresh, null + none * 4 + null + [6, 1, 1, 0, 0, 0, 0])
        self.assertEqual(answers(calls), first)
        first.append(7)
        self.assertEqual(answers(calls), first[:-1])

    def test_whole_numbers_alone_are_answered(self):
        given = answers(flat(ALL_ELEVEN) + value("true") + shape(0, "bool") + shape(0, "bool") + fits(0) + misfit(0) + learn(0)
                        + join(0, 0, 0) + within(0, 1) + within(1, 0) + size())
        self.assertIs(type(given), list)
        self.assertEqual({type(number) for number in given}, {int})


if __name__ == "__main__":
    unittest.main()
