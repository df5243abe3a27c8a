"""The form in which shapes are kept.

A shape is a dict of its parts, and none is the empty dict. The keys are sorts of
values; what stands under them is:
- "null", "bool": True;
- "num": a span;
- "text": a pattern;
- "list": (the shape of items, span);
- "record": ("told", the list of fields, span), each field being (name, needed, shape),
  or ("dict", pattern, span, shape).
A shape is not changed any more once it is made, so shapes may share what is within.
"""

PARTS = ("null", "bool", "num", "text", "list", "record")

MOST_TOLD = 8
MOST_NODES = 60


# The shapes straight within this one; none may be among them.
def shapes_in(shape):
    inner = []
    if "list" in shape:
        inner.append(shape["list"][0])
    if "record" in shape:
        inner.extend(shapes_in_record(shape["record"]))
    return inner


def shapes_in_record(record):
    if record[0] == "dict":
        return [record[3]]
    return [shape for name, needed, shape in record[1]]


def nodes_of(shape):
    if not shape:
        return 0
    return 1 + sum([nodes_of(inner) for inner in shapes_in(shape)])


# The fields, told ones or a record's own, each under its name.
def by_name(fields):
    named = {}
    for field in fields:
        named[field[0]] = field
    return named
