"""Texts, which are lists of bytes, read strictly from their beginning to their end.

What is read is kept in this form: numbers as they are, a span as (first, second),
the signs of a text in marks and the bytes of a name as a tuple, so that they are
ordered as the bytes are.
"""

from looseshapes.refusals import Unreadable
from looseshapes.signs import codes, is_digit, is_name_byte, is_sign, is_small

MOST_SIGNS = 20
MOST_NAME_BYTES = 10

# No number that may stand in a text has more; a longer run of digits is not reckoned up.
MOST_DIGITS = 10


# A text, and how far it has been read.
class Reader:
    def __init__(self, text):
        self.text = text
        self.at = 0

    def ended(self):
        return self.at == len(self.text)

    def sees(self, word):
        return self.text[self.at:self.at + len(word)] == codes(word)

    # Goes on behind the word if it stands here, and tells whether it did.
    def takes(self, word):
        if not self.sees(word):
            return False
        self.at += len(word)
        return True

    def must_take(self, word):
        if not self.takes(word):
            raise Unreadable("something else stands here than must")

    def take_byte(self):
        if self.ended():
            raise Unreadable("the text ends too early")
        self.at += 1
        return self.text[self.at - 1]

    # All bytes from here on, up to the first one that does not belong.
    def take_run(self, belongs):
        start = self.at
        while not self.ended() and belongs(self.text[self.at]):
            self.at += 1
        return self.text[start:self.at]


def take_number(reader):
    negative = reader.takes("-")
    digits = reader.take_run(is_digit)
    if not 1 <= len(digits) <= MOST_DIGITS:
        raise Unreadable("no number, or one that is too large for any place")
    if digits[0] == ord("0") and (negative or len(digits) > 1):
        raise Unreadable("a needless zero, or a zero below 0")
    number = 0
    for digit in digits:
        number = number * 10 + digit - ord("0")
    return -number if negative else number


# A span that lies within least..most.
def take_span(reader, least, most):
    first = take_number(reader)
    reader.must_take("..")
    second = take_number(reader)
    if not least <= first <= second <= most:
        raise Unreadable("no span, or one that is too wide")
    return (first, second)


# The signs of a text in marks.
def take_marked(reader):
    reader.must_take('"')
    signs = []
    while not reader.takes('"'):
        signs.append(take_marked_sign(reader))
    if len(signs) > MOST_SIGNS:
        raise Unreadable("too many signs")
    return tuple(signs)


def take_marked_sign(reader):
    escaped = reader.takes("\\")
    byte = reader.take_byte()
    if not is_sign(byte):
        raise Unreadable("a byte that is no sign")
    if escaped and byte not in codes('"\\'):
        raise Unreadable("a sign that needs no backslash")
    return byte


def take_name(reader):
    name = reader.take_run(is_name_byte)
    if not 1 <= len(name) <= MOST_NAME_BYTES or not is_small(name[0]):
        raise Unreadable("no name")
    return tuple(name)


# What stands up to the ending, with a comma and a blank between: each by take_one, on this level.
def take_series(reader, ending, take_one, level):
    if reader.takes(ending):
        return []
    series = [take_one(reader, level)]
    while reader.takes(", "):
        series.append(take_one(reader, level))
    reader.must_take(ending)
    return series


def must_rise(texts):
    for k in range(1, len(texts)):
        if not texts[k - 1] < texts[k]:
            raise Unreadable("texts that do not rise")
