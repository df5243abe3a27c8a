"""The calls on one object, and what they answer."""

from looseshapes.data import NULL, depth_of, entries_of, read_value
from looseshapes.fitting import first_misfit, fits_shape, path_text
from looseshapes.forms import MOST_NODES, nodes_of
from looseshapes.joining import joined, least_shape
from looseshapes.refusals import NoPlace, TooLarge, Unreadable
from looseshapes.shapereading import read_shape
from looseshapes.shapewriting import shape_text
from looseshapes.signs import codes
from looseshapes.within import is_within

VALUE = 0
SHOW = 1
SHAPE = 2
TOLD = 3
LEAST = 4
FITS = 5
MISFIT = 6
JOIN = 7
LEARN = 8
WITHIN = 9

# For each call, from value to size, how many whole numbers it has.
NUMBERS = (0, 0, 1, 1, 0, 1, 1, 3, 1, 2, 0)

PLACES = 4


# The object that the calls are on: a value with its text, and the places for shapes.
class Holder:
    def __init__(self):
        self.value = NULL
        # A value has one text only, so the one that was read is the one to be shown.
        self.value_text = codes("null")
        self.places = [{} for k in range(PLACES)]

    def hold(self, text):
        self.value = read_value(text)
        self.value_text = text

    def shape_at(self, k):
        if not 0 <= k < PLACES:
            raise NoPlace("no such place")
        return self.places[k]

    # Whether another shape than before stands in the place from now on.
    def put(self, k, shape):
        before = self.shape_at(k)
        if nodes_of(shape) > MOST_NODES:
            raise TooLarge("too many nodes for a place")
        self.places[k] = shape
        return shape != before


# For each call how many numbers it answers, and these.
def answers(calls):
    holder = Holder()
    told = []
    at = 0
    while at < len(calls):
        number = calls[at]
        at += 1
        numbers = calls[at:at + NUMBERS[number]]
        at += len(numbers)
        text = []
        if number in (VALUE, SHAPE):
            text = calls[at + 1:at + 1 + calls[at]]
            at += 1 + len(text)
        answered = answer_or_refusal(holder, number, numbers, text)
        told.append(len(answered))
        told.extend(answered)
    return told


def answer_or_refusal(holder, number, numbers, text):
    try:
        return answer(holder, number, numbers, text)
    except Unreadable:
        return [-1]
    except NoPlace:
        return [-2]
    except TooLarge:
        return [-7]


def answer(holder, number, numbers, text):
    if number == VALUE:
        return answer_value(holder, text)
    if number == SHOW:
        return with_length(holder.value_text)
    if number == SHAPE:
        return answer_shape(holder, numbers[0], text)
    if number == TOLD:
        return with_length(shape_text(holder.shape_at(numbers[0])))
    if number == LEAST:
        return with_length(shape_text(least_shape(holder.value)))
    if number == FITS:
        return one_or_zero(fits_shape(holder.value, holder.shape_at(numbers[0])))
    if number == MISFIT:
        return answer_misfit(holder.value, holder.shape_at(numbers[0]))
    if number == JOIN:
        return answer_join(holder, numbers[0], numbers[1], numbers[2])
    if number == LEARN:
        return answer_learn(holder, numbers[0])
    if number == WITHIN:
        return one_or_zero(is_within(holder.shape_at(numbers[0]), holder.shape_at(numbers[1])))
    # Only size is left.
    return size_of_value(holder) + [nodes_of(shape) for shape in holder.places]


def answer_value(holder, text):
    holder.hold(text)
    return size_of_value(holder)


def size_of_value(holder):
    return [entries_of(holder.value), depth_of(holder.value)]


def answer_shape(holder, k, text):
    # That there is no such place is told ahead of what is wrong with the text.
    holder.shape_at(k)
    return one_or_zero(holder.put(k, read_shape(text)))


def answer_misfit(value, shape):
    misfit = first_misfit(value, shape)
    if misfit is None:
        return [0]
    return [1, misfit[0]] + with_length(path_text(misfit[1]))


def answer_join(holder, k, j, m):
    return one_or_zero(holder.put(m, joined(holder.shape_at(k), holder.shape_at(j))))


def answer_learn(holder, k):
    return one_or_zero(holder.put(k, joined(holder.shape_at(k), least_shape(holder.value))))


def with_length(text):
    return [len(text)] + text


def one_or_zero(holds):
    return [1 if holds else 0]
