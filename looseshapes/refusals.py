"""Why a call is refused: one error class for each number that is answered then."""


# The text is no value's, or no shape's: -1.
class Unreadable(Exception):
    pass


# There is no place with this number: -2.
class NoPlace(Exception):
    pass


# The shape has more nodes than a place may hold: -7.
class TooLarge(Exception):
    pass
