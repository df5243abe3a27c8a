"""Spans: (first, second), two numbers, of which the second one is not less."""

from looseshapes.signs import codes


def span_text(span):
    return codes(str(span[0]) + ".." + str(span[1]))


def has_number(span, number):
    return span[0] <= number <= span[1]


# The least span that has both.
def joined_spans(one, other):
    return (min(one[0], other[0]), max(one[1], other[1]))


def is_span_within(one, other):
    return other[0] <= one[0] and one[1] <= other[1]
