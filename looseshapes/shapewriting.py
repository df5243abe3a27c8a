"""Shapes, written as texts."""

from looseshapes.forms import PARTS
from looseshapes.patterns import pattern_text
from looseshapes.signs import codes, strung
from looseshapes.spans import span_text


def shape_text(shape):
    if not shape:
        return codes("none")
    return strung(" | ", [part_text(part, shape[part]) for part in PARTS if part in shape])


def part_text(part, content):
    if part == "num":
        return codes("num ") + span_text(content)
    if part == "text":
        return codes("text ") + pattern_text(content)
    if part == "list":
        return codes("[") + shape_text(content[0]) + codes("] ") + span_text(content[1])
    if part == "record":
        return record_text(content)
    return codes(part)


def record_text(record):
    if record[0] == "dict":
        return dict_text(record[1], record[2], record[3])
    fields = strung(", ", [field_text(name, needed, shape) for name, needed, shape in record[1]])
    return codes("{") + fields + codes("} ") + span_text(record[2])


def field_text(name, needed, shape):
    return list(name) + codes(": (" if needed else "?: (") + shape_text(shape) + codes(")")


def dict_text(pattern, span, shape):
    head = codes("dict ") + pattern_text(pattern) + codes(" ") + span_text(span)
    return head + codes(" (") + shape_text(shape) + codes(")")
