"""Promise 4: told."""

import unittest

from tests.helper import NO_PLACE, REFUSED_TEXT, bytes_of, run, shape, text_in, told, value


class ToldTest(unittest.TestCase):
    def test_none_on_a_new_object(self):
        self.assertEqual(run(told(0), told(1), told(2), told(3)), [[4, 110, 111, 110, 101]] * 4)

    def test_no_place(self):
        for k in (-1, 4, -3, 1000000000000000000, -1000000000000000000):
            self.assertEqual(run(told(k)), [NO_PLACE])

    def test_the_shape_that_stands_there(self):
        text = ('null | bool | num -10..-1 | text "" "\\"\\\\" | [text 0..4 b] 2..3 | '
                "{a?: ([none] 0..0), b: (dict 1..9 ds 0..16 (num 0..0))} 1..2")
        given = run(shape(0, "bool"), shape(3, text), told(3), told(0), told(1), told(3))
        self.assertEqual(given[2], [len(text)] + bytes_of(text))
        self.assertEqual(text_in(given[3]), "bool")
        self.assertEqual(text_in(given[4]), "none")
        self.assertEqual(given[5], given[2])

    def test_the_last_one_put(self):
        given = run(shape(2, "null"), shape(2, "[bool] 1..1"), shape(2, "x"), value("1"), told(2))
        self.assertEqual(given[2], REFUSED_TEXT)
        self.assertEqual(text_in(given[4]), "[bool] 1..1")


if __name__ == "__main__":
    unittest.main()
