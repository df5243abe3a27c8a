"""Whether all that one shape lets in another one does, too."""

from looseshapes.forms import by_name
from looseshapes.patterns import fits_pattern, is_pattern_within
from looseshapes.spans import is_span_within


# None has no parts, so it is within every shape, and nothing else is within it.
def is_within(one, other):
    return all([part in other and is_part_within(part, one[part], other[part]) for part in one])


def is_part_within(part, one, other):
    if part == "num":
        return is_span_within(one, other)
    if part == "text":
        return is_pattern_within(one, other)
    if part == "list":
        return is_span_within(one[1], other[1]) and is_within(one[0], other[0])
    if part == "record":
        return is_span_within(one[2], other[2]) and are_fields_within(one, other)
    return True


# Whether the records' parts are within, whatever their spans.
def are_fields_within(one, other):
    if one[0] == "told" and other[0] == "told":
        return is_told_within_told(one[1], other[1])
    if one[0] == "told":
        return is_told_within_dict(one[1], other[1], other[3])
    if other[0] == "told":
        return False
    return is_pattern_within(one[1], other[1]) and is_within(one[3], other[3])


def is_told_within_told(fields, others):
    told_here = by_name(fields)
    told_there = by_name(others)
    if not all([name in told_there and is_within(shape, told_there[name][2]) for name, needed, shape in fields]):
        return False
    return all([name in told_here and told_here[name][1] for name, needed, shape in others if needed])


def is_told_within_dict(fields, pattern, shape):
    return all([fits_pattern(name, pattern) and is_within(inner, shape) for name, needed, inner in fields])
