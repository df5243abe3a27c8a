"""Shapes, read from texts."""

from looseshapes.data import LEAST_NUMBER, MOST_DEEP, MOST_FIELDS, MOST_ITEMS, MOST_NUMBER
from looseshapes.forms import MOST_NODES, MOST_TOLD, nodes_of
from looseshapes.patterns import take_pattern, take_wide
from looseshapes.reader import MOST_NAME_BYTES, Reader, must_rise, take_name, take_series, take_span
from looseshapes.refusals import Unreadable

# How each part begins, in the order in which parts are written, and its key in a shape.
BEGINNINGS = (
    ("null", "null"),
    ("bool", "bool"),
    ("num ", "num"),
    ("text ", "text"),
    ("[", "list"),
    ("{", "record"),
    ("dict ", "record"),
)


# The shape whose text this is; Unreadable if it is no shape's.
def read_shape(text):
    reader = Reader(text)
    shape = take_shape(reader, 1)
    if not reader.ended() or nodes_of(shape) > MOST_NODES:
        raise Unreadable("something behind the shape, or too many nodes")
    return shape


def take_shape(reader, level):
    if reader.takes("none"):
        return {}
    # None is not deep at all, so it alone may stand within the deepest list.
    if level > MOST_DEEP:
        raise Unreadable("too deep")
    shape = {}
    more = True
    for beginning, part in BEGINNINGS:
        if more and part not in shape and reader.takes(beginning):
            shape[part] = take_part(reader, beginning, level)
            more = reader.takes(" | ")
    if more:
        raise Unreadable("no part, or one that may not stand here")
    return shape


def take_some_shape(reader, level):
    shape = take_shape(reader, level)
    if not shape:
        raise Unreadable("none, where it may not stand")
    return shape


# What stands behind the beginning of a part.
def take_part(reader, beginning, level):
    if beginning == "num ":
        return take_span(reader, LEAST_NUMBER, MOST_NUMBER)
    if beginning == "text ":
        return take_pattern(reader)
    if beginning == "[":
        return take_list_part(reader, level)
    if beginning == "{":
        return take_told_part(reader, level)
    if beginning == "dict ":
        return take_dict_part(reader, level)
    return True


def take_list_part(reader, level):
    shape = take_shape(reader, level + 1)
    reader.must_take("] ")
    span = take_span(reader, 0, MOST_ITEMS)
    if (not shape) != (span == (0, 0)):
        raise Unreadable("items that have no shape, or a shape that no item has")
    return (shape, span)


def take_told_part(reader, level):
    fields = take_series(reader, "}", take_told_field, level + 1)
    if len(fields) > MOST_TOLD:
        raise Unreadable("too many told fields")
    must_rise([name for name, needed, shape in fields])
    reader.must_take(" ")
    needs = len([name for name, needed, shape in fields if needed])
    span = take_span(reader, needs, len(fields))
    if needs < len(fields) and (span[0] == len(fields) or span[1] == needs):
        raise Unreadable("a free field that is always there, or never")
    return ("told", fields, span)


def take_told_field(reader, level):
    name = take_name(reader)
    needed = not reader.takes("?")
    reader.must_take(": (")
    shape = take_some_shape(reader, level)
    reader.must_take(")")
    return (name, needed, shape)


def take_dict_part(reader, level):
    pattern = take_wide(reader)
    must_suit_names(pattern)
    reader.must_take(" ")
    span = take_span(reader, 0, MOST_FIELDS)
    if span[1] == 0:
        raise Unreadable("a dictionary that never has fields")
    reader.must_take(" (")
    shape = take_some_shape(reader, level + 1)
    reader.must_take(")")
    return ("dict", pattern, span, shape)


def must_suit_names(pattern):
    lengths = pattern[1]
    classes = pattern[2]
    if lengths[0] < 1 or lengths[1] > MOST_NAME_BYTES:
        raise Unreadable("lengths that names do not have")
    # A name begins with a letter, so only a second byte can be a digit.
    if classes != "s" and (classes != "ds" or lengths[1] < 2):
        raise Unreadable("classes that names do not have")
