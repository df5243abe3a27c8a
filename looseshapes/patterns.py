"""Patterns of texts.

A pattern is ("words", the list of its words) or ("wide", lengths, classes), which is
an open one: the lengths as a span, the classes as a text of their letters.
"""

from looseshapes.reader import MOST_SIGNS, must_rise, take_marked, take_span
from looseshapes.refusals import Unreadable
from looseshapes.signs import CLASSES, class_of, codes, marked, strung
from looseshapes.spans import has_number, is_span_within, joined_spans, span_text

MOST_WORDS = 4


def word_pattern(word):
    return ("words", [word])


def take_pattern(reader):
    if reader.sees('"'):
        return take_words(reader)
    return take_wide(reader)


def take_words(reader):
    words = [take_marked(reader)]
    while reader.sees(' "'):
        reader.must_take(" ")
        words.append(take_marked(reader))
    if len(words) > MOST_WORDS:
        raise Unreadable("too many words")
    must_rise(words)
    return ("words", words)


def take_wide(reader):
    lengths = take_span(reader, 0, MOST_SIGNS)
    reader.must_take(" ")
    classes = ""
    for letter in CLASSES:
        if reader.takes(letter):
            classes += letter
    if lengths[1] == 0 or classes == "":
        raise Unreadable("an open pattern that only the empty text fits, or without classes")
    # With fewer lengths the texts of blanks alone would be so few that they are words.
    if classes == "b" and lengths[1] - lengths[0] < MOST_WORDS:
        raise Unreadable("too few lengths for the blank alone")
    return ("wide", lengths, classes)


def pattern_text(pattern):
    if pattern[0] == "wide":
        return span_text(pattern[1]) + codes(" " + pattern[2])
    return strung(" ", [marked(word) for word in pattern[1]])


def fits_pattern(signs, pattern):
    if pattern[0] == "words":
        return signs in pattern[1]
    return has_number(pattern[1], len(signs)) and all([class_of(sign) in pattern[2] for sign in signs])


def joined_patterns(one, other):
    if one[0] == "words" and other[0] == "words":
        words = sorted(set(one[1]) | set(other[1]))
        if len(words) <= MOST_WORDS:
            return ("words", words)
    lengths = joined_spans(lengths_needed(one), lengths_needed(other))
    needed = classes_needed(one) + classes_needed(other)
    return ("wide", lengths, "".join([letter for letter in CLASSES if letter in needed]))


def lengths_needed(pattern):
    if pattern[0] == "wide":
        return pattern[1]
    lengths = [len(word) for word in pattern[1]]
    return (min(lengths), max(lengths))


# The letters of these classes, in any order and as often as they come.
def classes_needed(pattern):
    if pattern[0] == "wide":
        return pattern[2]
    letters = ""
    for word in pattern[1]:
        letters += "".join([class_of(sign) for sign in word])
    return letters


def is_pattern_within(one, other):
    if one[0] == "words":
        return all([fits_pattern(word, other) for word in one[1]])
    if other[0] == "words":
        return False
    return is_span_within(one[1], other[1]) and all([letter in other[2] for letter in one[2]])
