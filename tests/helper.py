"""Calls written as lists of whole numbers, and their answers taken apart again."""

from looseshapes.shapes import answers

REFUSED_TEXT = [-1]
NO_PLACE = [-2]


def bytes_of(text):
    """A text as a list of bytes; what is a list already stays as it is."""
    return [ord(sign) for sign in text] if isinstance(text, str) else list(text)


def row(text):
    return [len(bytes_of(text))] + bytes_of(text)


def value(text):
    return [0] + row(text)


def show():
    return [1]


def shape(k, text):
    return [2, k] + row(text)


def told(k):
    return [3, k]


def least():
    return [4]


def fits(k):
    return [5, k]


def run(*calls):
    """The answers of these calls on one new object, a list for each."""
    flat = answers([number for call in calls for number in call])
    given = []
    at = 0
    while at < len(flat):
        given.append(flat[at + 1:at + 1 + flat[at]])
        at += 1 + flat[at]
    assert at == len(flat) and len(given) == len(calls), flat
    return given


def text_in(answer):
    """The text that an answer is, as a string."""
    assert answer[0] == len(answer) - 1, answer
    return "".join(chr(byte) for byte in answer[1:])


def least_of(text):
    given = run(value(text), least())
    assert given[0] != REFUSED_TEXT, text
    return text_in(given[1])


def does_fit(value_text, shape_text):
    given = run(value(value_text), shape(2, shape_text), fits(2))
    assert REFUSED_TEXT not in given, (value_text, shape_text)
    return given[2] == [1]


def nested(beginning, middle, ending, times):
    return beginning * times + middle + ending * times


def record(names, content):
    """A record's text with these fields, each with the same value's text."""
    return "{" + ", ".join(f"{name}: {content}" for name in names) + "}"


def list_of(contents):
    return "[" + ", ".join(contents) + "]"


def some_value(source, level=1):
    """The text of a value, drawn from a seeded source, so the same ones on every run."""
    sorts = ("null", "true", "number", "text", "list", "record")
    sort = source.choice(sorts if level < 4 else sorts[:4])
    if sort == "number":
        return str(source.choice((-1000000000, -12, -1, 0, 1, 7, 1000000000)))
    if sort == "text":
        return '"' + "".join(source.choice(("a", "Z", "0", " ", "~", '\\"')) for _ in range(source.choice((0, 1, 1, 2, 5)))) + '"'
    if sort == "list":
        return list_of([some_value(source, level + 1) for _ in range(source.choice((0, 1, 3, 5)))])
    if sort == "record":
        count = source.choice((0, 1, 3, 5)) if level > 1 else source.choice((2, 5, 9))
        names = sorted(source.sample(("a", "a1", "b", "bb", "c", "d", "e", "f", "g9", "hij", "k234567890"), count))
        return "{" + ", ".join(f"{name}: {some_value(source, level + 2)}" for name in names) + "}"
    return sort
