"""Bytes of texts, and the classes that signs belong to."""

CLASSES = "dsgbo"

BLANK = 32
LAST_SIGN = 126


def codes(word):
    return [ord(sign) for sign in word]


def is_sign(byte):
    return BLANK <= byte <= LAST_SIGN


def is_digit(byte):
    return ord("0") <= byte <= ord("9")


def is_small(byte):
    return ord("a") <= byte <= ord("z")


def is_great(byte):
    return ord("A") <= byte <= ord("Z")


def is_name_byte(byte):
    return is_small(byte) or is_digit(byte)


def class_of(sign):
    if is_digit(sign):
        return "d"
    if is_small(sign):
        return "s"
    if is_great(sign):
        return "g"
    if sign == BLANK:
        return "b"
    return "o"


# The texts one behind another, with a word between.
def strung(between, texts):
    text = []
    for k in range(len(texts)):
        if k > 0:
            text.extend(codes(between))
        text.extend(texts[k])
    return text


# The text in marks of these signs.
def marked(signs):
    text = codes('"')
    for sign in signs:
        if sign in codes('"\\'):
            text.append(ord("\\"))
        text.append(sign)
    return text + codes('"')
