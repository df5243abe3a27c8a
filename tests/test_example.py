"""The document's example, whole."""

import unittest

from tests.helper import (
    bytes_of, fits, learn, least, least_of, misfit, record, run, shape, text_in, told, value, within,
)

LEARNED = '{a: (num -3..1), b?: ([text "x" "y"] 2..2)} 1..2'
TOLD = "null | {a: (num -9..9), b?: ([text 1..3 s] 0..5)} 1..2"


class ExampleTest(unittest.TestCase):
    def test_call_by_call(self):
        calls = (
            (value('{a: 1, b: ["x", "y"]}'), [5, 3]),
            (least(), '{a: (num 1..1), b: ([text "x" "y"] 2..2)} 2..2'),
            (learn(0), [1]),
            (value("{a: -3}"), [2, 2]),
            (learn(0), [1]),
            (told(0), LEARNED),
            (shape(1, TOLD), [1]),
            (told(1), TOLD),
            (within(0, 1), [1]),
            (within(1, 0), [0]),
            (misfit(0), [0]),
            (fits(0), [1]),
            (value("{a: 100}"), [2, 2]),
            (misfit(0), [1, 4, 2] + bytes_of("/a")),
            (fits(0), [0]),
            (value("{b: []}"), [2, 2]),
            (misfit(0), [1, 11, 2] + bytes_of("/a")),
            (fits(0), [0]),
            (value("{a: 0, c: 0}"), [3, 2]),
            (misfit(0), [1, 12, 2] + bytes_of("/c")),
            (fits(0), [0]),
            (value(record("abcdefghi", "1")), [10, 2]),
            (least(), "dict 1..1 s 9..9 (num 1..1)"),
        )
        given = run(*[call for call, answer in calls])
        for answer, (call, expected) in zip(given, calls):
            self.assertEqual(text_in(answer) if isinstance(expected, str) else answer, expected, call)

    def test_more_than_eight_fields(self):
        self.assertEqual(least_of(record("abcdefghi", "1")), "dict 1..1 s 9..9 (num 1..1)")


if __name__ == "__main__":
    unittest.main()
