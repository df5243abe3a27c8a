"""Whether values fit shapes."""

from looseshapes.patterns import fits_pattern
from looseshapes.spans import has_number


def fits_shape(value, shape):
    sort = value[0]
    return sort in shape and fits_part(sort, value[1], shape[sort])


def fits_part(sort, content, part):
    if sort == "num":
        return has_number(part, content)
    if sort == "text":
        return fits_pattern(content, part)
    if sort == "list":
        return has_number(part[1], len(content)) and all([fits_shape(item, part[0]) for item in content])
    if sort == "record":
        return has_number(part[2], len(content)) and fits_fields(content, part)
    return True


def fits_fields(fields, part):
    if part[0] == "dict":
        return all([fits_pattern(name, part[1]) and fits_shape(value, part[3]) for name, value in fields])
    return fits_told(fields, part[1])


def fits_told(fields, told):
    shapes = {}
    for name, needed, shape in told:
        shapes[name] = shape
    if not all([name in shapes and fits_shape(value, shapes[name]) for name, value in fields]):
        return False
    names = [name for name, value in fields]
    return all([name in names for name, needed, shape in told if needed])
