"""The document's example, as far as the calls go that are there."""

import unittest

from looseshapes.data import read_value
from looseshapes.joining import joined, least_shape
from looseshapes.shapewriting import shape_text
from tests.helper import bytes_of, fits, least_of, record, run, shape, text_in, told, value


class ExampleTest(unittest.TestCase):
    def test_least(self):
        self.assertEqual(least_of('{a: 1, b: ["x", "y"]}'), '{a: (num 1..1), b: ([text "x" "y"] 2..2)} 2..2')

    def test_the_least_shapes_joined(self):
        one = least_shape(read_value(bytes_of('{a: 1, b: ["x", "y"]}')))
        other = least_shape(read_value(bytes_of("{a: -3}")))
        expected = bytes_of('{a: (num -3..1), b?: ([text "x" "y"] 2..2)} 1..2')
        self.assertEqual(shape_text(joined(one, other)), expected)
        self.assertEqual(shape_text(joined(other, one)), expected)

    def test_the_shape_that_is_told(self):
        text = "null | {a: (num -9..9), b?: ([text 1..3 s] 0..5)} 1..2"
        given = run(shape(1, text), told(1))
        self.assertEqual(given[0], [1])
        self.assertEqual(text_in(given[1]), text)

    def test_what_does_not_fit(self):
        text = '{a: (num -3..1), b?: ([text "x" "y"] 2..2)} 1..2'
        for value_text, answer in (("{a: 100}", 0), ("{b: []}", 0), ("{a: 0, c: 0}", 0), ("{a: -3}", 1)):
            self.assertEqual(run(value(value_text), shape(0, text), fits(0))[2], [answer], value_text)

    def test_more_than_eight_fields(self):
        self.assertEqual(least_of(record("abcdefghi", "1")), "dict 1..1 s 9..9 (num 1..1)")


if __name__ == "__main__":
    unittest.main()
