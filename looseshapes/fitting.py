"""Whether values fit shapes, and where they first do not.

A misfit is (reason, path), the path being the list of its steps, each a name or the
number of an item as a text. None stands for no misfit.
"""

from looseshapes.forms import by_name
from looseshapes.patterns import fits_pattern
from looseshapes.signs import codes
from looseshapes.spans import has_number

# The reason if a value's sort is not let in at all.
SORT_NOT_LET_IN = {"null": 1, "bool": 2, "num": 3, "text": 5, "list": 7, "record": 9}

NOT_IN_SPAN = 4
NOT_IN_PATTERN = 6
WRONG_ITEM_COUNT = 8
WRONG_FIELD_COUNT = 10
NEEDED_NOT_THERE = 11
NOT_TOLD = 12
WRONG_NAME = 13
SHAPE_IS_NONE = 14


def fits_shape(value, shape):
    return first_misfit(value, shape) is None


def path_text(path):
    if not path:
        return codes("/")
    text = []
    for step in path:
        text.extend(codes("/") + list(step))
    return text


def first_misfit(value, shape):
    sort = value[0]
    if not shape:
        return misfit_here(SHAPE_IS_NONE)
    if sort not in shape:
        return misfit_here(SORT_NOT_LET_IN[sort])
    return part_misfit(sort, value[1], shape[sort])


def misfit_here(reason):
    return (reason, [])


# The same misfit, seen from one step further out.
def misfit_within(step, misfit):
    return (misfit[0], [step] + misfit[1])


def part_misfit(sort, content, part):
    if sort == "num" and not has_number(part, content):
        return misfit_here(NOT_IN_SPAN)
    if sort == "text" and not fits_pattern(content, part):
        return misfit_here(NOT_IN_PATTERN)
    if sort == "list":
        return list_misfit(content, part[0], part[1])
    if sort == "record":
        return record_misfit(content, part)
    return None


def list_misfit(items, shape, span):
    if not has_number(span, len(items)):
        return misfit_here(WRONG_ITEM_COUNT)
    for k, item in enumerate(items):
        misfit = first_misfit(item, shape)
        if misfit is not None:
            return misfit_within(codes(str(k)), misfit)
    return None


def record_misfit(fields, part):
    if not has_number(part[2], len(fields)):
        return misfit_here(WRONG_FIELD_COUNT)
    if part[0] == "dict":
        return dict_misfit(fields, part[1], part[3])
    return told_misfit(fields, part[1])


def dict_misfit(fields, pattern, shape):
    for name, value in fields:
        misfit = misfit_here(WRONG_NAME)
        if fits_pattern(name, pattern):
            misfit = first_misfit(value, shape)
        if misfit is not None:
            return misfit_within(name, misfit)
    return None


def told_misfit(fields, told):
    fields_here = by_name(fields)
    fields_told = by_name(told)
    for name in sorted(set(fields_here) | set(fields_told)):
        misfit = told_field_misfit(name, fields_here, fields_told)
        if misfit is not None:
            return misfit_within(name, misfit)
    return None


def told_field_misfit(name, fields_here, fields_told):
    if name not in fields_told:
        return misfit_here(NOT_TOLD)
    if name in fields_here:
        return first_misfit(fields_here[name][1], fields_told[name][2])
    if fields_told[name][1]:
        return misfit_here(NEEDED_NOT_THERE)
    return None
