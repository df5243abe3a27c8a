"""Values.

A value is (sort, content). Its sort is called as the part of shapes that may let it
in: "null", "bool", "num", "text", "list" or "record". The content of a text is the
tuple of its signs, of a list the list of its items, of a record the list of its
fields, each (name, value).
"""

from looseshapes.reader import Reader, must_rise, take_marked, take_name, take_number, take_series
from looseshapes.refusals import Unreadable

LEAST_NUMBER = -1000000000
MOST_NUMBER = 1000000000
MOST_ITEMS = 10
MOST_FIELDS = 16
MOST_ENTRIES = 60
MOST_DEEP = 6

NULL = ("null", None)


# The value whose text this is; Unreadable if it is no value's.
def read_value(text):
    reader = Reader(text)
    value = take_value(reader, 1)
    if not reader.ended() or entries_of(value) > MOST_ENTRIES:
        raise Unreadable("something behind the value, or too many entries")
    return value


def take_value(reader, level):
    if level > MOST_DEEP:
        raise Unreadable("too deep")
    if reader.takes("null"):
        return NULL
    if reader.takes("true"):
        return ("bool", True)
    if reader.takes("false"):
        return ("bool", False)
    if reader.sees('"'):
        return ("text", take_marked(reader))
    if reader.takes("["):
        return ("list", take_items(reader, level))
    if reader.takes("{"):
        return ("record", take_fields(reader, level))
    return ("num", take_value_number(reader))


def take_value_number(reader):
    number = take_number(reader)
    if not LEAST_NUMBER <= number <= MOST_NUMBER:
        raise Unreadable("a number that is no value")
    return number


def take_items(reader, level):
    items = take_series(reader, "]", take_value, level + 1)
    if len(items) > MOST_ITEMS:
        raise Unreadable("too many items")
    return items


def take_fields(reader, level):
    fields = take_series(reader, "}", take_field, level + 1)
    if len(fields) > MOST_FIELDS:
        raise Unreadable("too many fields")
    must_rise([name for name, value in fields])
    return fields


def take_field(reader, level):
    name = take_name(reader)
    reader.must_take(": ")
    return (name, take_value(reader, level))


# The items of a list, the values of a record's fields; of other values none.
def values_in(value):
    if value[0] == "list":
        return list(value[1])
    if value[0] == "record":
        return [inner for name, inner in value[1]]
    return []


def entries_of(value):
    return 1 + sum([entries_of(inner) for inner in values_in(value)])


def depth_of(value):
    return 1 + max([depth_of(inner) for inner in values_in(value)], default=0)
