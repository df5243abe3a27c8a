"""Calls written as lists of whole numbers, and their answers taken apart again."""

from looseshapes.shapes import answers

REFUSED_TEXT = [-1]
NO_PLACE = [-2]
TOO_LARGE = [-7]
NOT_PLACES = (-1, 4, 5, -4, 1000000000000000000, -1000000000000000000)


def bytes_of(text):
    """A text as a list of bytes; what is a list already stays as it is."""
    return [ord(sign) for sign in text] if isinstance(text, str) else list(text)


def row(text):
    return [len(bytes_of(text))] + bytes_of(text)


def value(text):
    return [0] + row(text)


def show():
    return [1]


def shape(k, text):
    return [2, k] + row(text)


def told(k):
    return [3, k]


def least():
    return [4]


def fits(k):
    return [5, k]


def misfit(k):
    return [6, k]


def join(k, j, m):
    return [7, k, j, m]


def learn(k):
    return [8, k]


def within(k, j):
    return [9, k, j]


def size():
    return [10]


def run(*calls):
    """The answers of these calls on one new object, a list for each."""
    flat = answers([number for call in calls for number in call])
    given = []
    at = 0
    while at < len(flat):
        given.append(flat[at + 1:at + 1 + flat[at]])
        at += 1 + flat[at]
    assert at == len(flat) and len(given) == len(calls), flat
    return given


def text_in(answer):
    """The text that an answer is, as a string."""
    assert answer[0] == len(answer) - 1, answer
    return "".join(chr(byte) for byte in answer[1:])


def least_of(text):
    given = run(value(text), least())
    assert given[0] != REFUSED_TEXT, text
    return text_in(given[1])


def does_fit(value_text, shape_text):
    given = run(value(value_text), shape(2, shape_text), fits(2))
    assert REFUSED_TEXT not in given, (value_text, shape_text)
    return given[2] == [1]


def misfit_of(value_text, shape_text):
    """None, or the reason and the path's text."""
    given = run(value(value_text), shape(2, shape_text), misfit(2))
    assert REFUSED_TEXT not in given, (value_text, shape_text)
    if given[2] == [0]:
        return None
    assert given[2][0] == 1, given
    return given[2][1], text_in(given[2][2:])


def joined_of(one, other):
    given = run(shape(0, one), shape(1, other), join(0, 1, 2), told(2))
    assert REFUSED_TEXT not in given, (one, other)
    return text_in(given[3]) if given[2] != TOO_LARGE else TOO_LARGE


def is_within(one, other):
    given = run(shape(1, one), shape(2, other), within(1, 2))
    assert REFUSED_TEXT not in given, (one, other)
    assert given[2] in ([0], [1]), given
    return given[2] == [1]


def told_all(shapes, names="abcdefgh"):
    """Needed fields with these shapes: one node more than these have."""
    fields = ", ".join(f"{name}: ({text})" for name, text in zip(names, shapes))
    return "{" + fields + "} " + f"{len(shapes)}..{len(shapes)}"


def nested(beginning, middle, ending, times):
    return beginning * times + middle + ending * times


def record(names, content):
    """A record's text with these fields, each with the same value's text."""
    return "{" + ", ".join(f"{name}: {content}" for name in names) + "}"


def list_of(contents):
    return "[" + ", ".join(contents) + "]"


NAMES = ("a", "a1", "b", "bb", "c", "d", "e", "f", "g9", "hij", "k234567890")


def some_value(source, level=1):
    """The text of a value, drawn from a seeded source, so the same ones on every run."""
    sorts = ("null", "true", "number", "text", "list", "record")
    sort = source.choice(sorts if level < 4 else sorts[:4])
    if sort == "number":
        return str(source.choice((-1000000000, -12, -1, 0, 1, 7, 1000000000)))
    if sort == "text":
        return '"' + "".join(source.choice(("a", "Z", "0", " ", "~", '\\"')) for _ in range(source.choice((0, 1, 1, 2, 5)))) + '"'
    if sort == "list":
        return list_of([some_value(source, level + 1) for _ in range(source.choice((0, 1, 3, 5)))])
    if sort == "record":
        count = source.choice((0, 1, 3, 5)) if level > 1 else source.choice((2, 5, 9))
        names = sorted(source.sample(NAMES, count))
        return "{" + ", ".join(f"{name}: {some_value(source, level + 2)}" for name in names) + "}"
    return sort


def some_span(source, least, most):
    first, second = sorted((source.randint(least, most), source.randint(least, most)))
    return f"{first}..{second}"


def some_pattern(source):
    if source.random() < 0.5:
        words = source.sample(("", " ", "A", "a", "aa", "b", "z9"), source.randint(1, 4))
        return " ".join(f'"{word}"' for word in sorted(words))
    classes = source.choice(("d", "s", "g", "ds", "sg", "sb", "dsgbo", "o"))
    return f"{source.randint(0, 1)}..{source.randint(1, 3)} {classes}"


def some_shape(source, level=1):
    """The text of a shape that is not none, drawn likewise."""
    parts = {"null": "null", "bool": "bool", "num": "num " + some_span(source, -3, 3), "text": "text " + some_pattern(source)}
    if level < 4:
        parts["list"] = some_list_part(source, level)
        parts["record"] = source.choice((some_told_part, some_told_part, some_dict_part))(source, level)
    chosen = source.sample(sorted(parts), source.choice((1, 1, 2, 3)))
    return " | ".join(parts[part] for part in parts if part in chosen)


def some_list_part(source, level):
    span = some_span(source, 0, 3)
    return f"[{'none' if span == '0..0' else some_shape(source, level + 1)}] {span}"


def some_told_part(source, level):
    names = sorted(source.sample(NAMES, source.choice((0, 1, 2, 3, 5) if level == 1 else (0, 1, 2))))
    free = [name for name in names if source.random() < 0.5]
    least, most = len(names) - len(free), len(names)
    fields = [f"{name}{'?' if name in free else ''}: ({some_shape(source, level + 1)})" for name in names]
    if free:
        spans = [(first, second) for first in range(least, most) for second in range(least + 1, most + 1) if first <= second]
        least, most = source.choice(spans)
    return "{" + ", ".join(fields) + "} " + f"{least}..{most}"


def some_dict_part(source, level):
    lengths = source.choice(("1..1 s", "1..2 s", "2..3 s", "1..2 ds", "1..10 ds"))
    first, second = source.choice(((0, 1), (0, 3), (1, 2), (2, 16)))
    return f"dict {lengths} {first}..{second} ({some_shape(source, level + 1)})"
