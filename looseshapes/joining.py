"""Shapes joined, and the least shapes of values."""

from looseshapes.forms import MOST_TOLD, PARTS, by_name
from looseshapes.patterns import joined_patterns, word_pattern
from looseshapes.spans import joined_spans


def joined(one, other):
    shape = {}
    for part in PARTS:
        if part in one and part in other:
            shape[part] = joined_parts(part, one[part], other[part])
        elif part in one:
            shape[part] = one[part]
        elif part in other:
            shape[part] = other[part]
    return shape


def joined_parts(part, one, other):
    if part == "num":
        return joined_spans(one, other)
    if part == "text":
        return joined_patterns(one, other)
    if part == "list":
        return (joined(one[0], other[0]), joined_spans(one[1], other[1]))
    if part == "record":
        return joined_records(one, other)
    return True


def joined_records(one, other):
    span = joined_spans(one[2], other[2])
    if one[0] == "told" and other[0] == "told":
        return told_or_dict(joined_fields(one[1], other[1]), span)
    if one[0] == "told":
        return dict_with(one[1], other[1], span, other[3])
    if other[0] == "told":
        return dict_with(other[1], one[1], span, one[3])
    return ("dict", joined_patterns(one[1], other[1]), span, joined(one[3], other[3]))


def joined_fields(one, other):
    ones = by_name(one)
    others = by_name(other)
    fields = []
    for name in sorted(set(ones) | set(others)):
        if name in ones and name in others:
            fields.append(joined_field(ones[name], others[name]))
        else:
            field = ones[name] if name in ones else others[name]
            fields.append((name, False, field[2]))
    return fields


def joined_field(one, other):
    return (one[0], one[1] and other[1], joined(one[2], other[2]))


# The part for records with these fields: told ones, unless they are too many for that.
def told_or_dict(fields, span):
    if len(fields) <= MOST_TOLD:
        return ("told", fields, span)
    return dict_with(fields, word_pattern(fields[0][0]), span, {})


# A dictionary of this pattern and shape, after the fields are joined to both.
def dict_with(fields, pattern, span, shape):
    for name, needed, inner in fields:
        pattern = joined_patterns(pattern, word_pattern(name))
        shape = joined(shape, inner)
    return ("dict", pattern, span, shape)


def least_shape(value):
    return {value[0]: least_part(value[0], value[1])}


def least_part(sort, content):
    if sort == "num":
        return (content, content)
    if sort == "text":
        return word_pattern(content)
    if sort == "list":
        return (least_of_items(content), (len(content), len(content)))
    if sort == "record":
        fields = [(name, True, least_shape(value)) for name, value in content]
        return told_or_dict(fields, (len(content), len(content)))
    return True


def least_of_items(items):
    shape = {}
    for item in items:
        shape = joined(shape, least_shape(item))
    return shape
