"""The calls on one object, and what they answer."""

from looseshapes.data import NULL, depth_of, entries_of, read_value
from looseshapes.fitting import fits_shape
from looseshapes.forms import MOST_NODES, nodes_of
from looseshapes.joining import least_shape
from looseshapes.refusals import NoPlace, TooLarge, Unreadable
from looseshapes.shapereading import read_shape
from looseshapes.shapewriting import shape_text
from looseshapes.signs import codes

VALUE = 0
SHOW = 1
SHAPE = 2
TOLD = 3
LEAST = 4

# Of value, show, shape, told, least, fits: how many whole numbers the call has, and whether a
# text is behind them.
NUMBERS = (0, 0, 1, 1, 0, 1)
HAS_TEXT = (True, False, True, False, False, False)

PLACES = 4


# The object that the calls are on: a value with its text, and the places for shapes.
class Holder:
    def __init__(self):
        self.value = NULL
        # A value has one text only, so the one that was read is the one to be shown.
        self.value_text = codes("null")
        self.places = [{} for k in range(PLACES)]

    def hold(self, text):
        self.value = read_value(text)
        self.value_text = text

    def shape_at(self, k):
        if not 0 <= k < PLACES:
            raise NoPlace("no such place")
        return self.places[k]

    # Whether another shape than before stands in the place from now on.
    def put(self, k, shape):
        before = self.shape_at(k)
        if nodes_of(shape) > MOST_NODES:
            raise TooLarge("too many nodes for a place")
        self.places[k] = shape
        return shape != before


# For each call how many numbers it answers, and these.
def answers(calls):
    holder = Holder()
    told = []
    at = 0
    while at < len(calls):
        number = calls[at]
        at += 1
        numbers = calls[at:at + NUMBERS[number]]
        at += len(numbers)
        text = []
        if HAS_TEXT[number]:
            text = calls[at + 1:at + 1 + calls[at]]
            at += 1 + len(text)
        answered = answer_or_refusal(holder, number, numbers, text)
        told.append(len(answered))
        told.extend(answered)
    return told


def answer_or_refusal(holder, number, numbers, text):
    try:
        return answer(holder, number, numbers, text)
    except Unreadable:
        return [-1]
    except NoPlace:
        return [-2]
    except TooLarge:
        return [-7]


def answer(holder, number, numbers, text):
    if number == VALUE:
        return answer_value(holder, text)
    if number == SHOW:
        return with_length(holder.value_text)
    if number == SHAPE:
        return answer_shape(holder, numbers[0], text)
    if number == TOLD:
        return with_length(shape_text(holder.shape_at(numbers[0])))
    if number == LEAST:
        return with_length(shape_text(least_shape(holder.value)))
    # Only fits is left.
    return one_or_zero(fits_shape(holder.value, holder.shape_at(numbers[0])))


def answer_value(holder, text):
    holder.hold(text)
    return [entries_of(holder.value), depth_of(holder.value)]


def answer_shape(holder, k, text):
    # That there is no such place is told ahead of what is wrong with the text.
    holder.shape_at(k)
    return one_or_zero(holder.put(k, read_shape(text)))


def with_length(text):
    return [len(text)] + text


def one_or_zero(holds):
    return [1 if holds else 0]
