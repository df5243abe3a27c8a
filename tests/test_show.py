"""Promise 2: show."""

import unittest

from tests.helper import REFUSED_TEXT, bytes_of, list_of, run, shape, show, value


class ShowTest(unittest.TestCase):
    def test_null_on_a_new_object(self):
        self.assertEqual(run(show()), [[4, 110, 117, 108, 108]])

    def test_just_what_was_read(self):
        tens = list_of(["-1000000000"] * 10)
        for text in ("true", "false", "null", "0", "-17", '""', '" "', "[]", "{}", '"a\\"b\\\\c"', '["\\\\", "\\""]',
                     '{a: 1, b: ["x", "y"], c1: {}}', list_of([tens] * 5), '{a: "{b: 1}"}', '"~!#$%&\'()*+"'):
            given = run(value(text), show())
            self.assertEqual(given[1], [len(text)] + bytes_of(text))

    def test_the_last_value_that_was_read(self):
        given = run(value("1"), value('"x"'), value("01"), shape(0, "null"), shape(4, "bool"), show(), show())
        self.assertEqual(given[2], REFUSED_TEXT)
        self.assertEqual(given[5:], [[3, 34, 120, 34]] * 2)


if __name__ == "__main__":
    unittest.main()
