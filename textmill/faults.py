"""The errors that a run can come to, a class for each number."""


# Error 1: the text ends within a quote or within a call.
class EndsWithin(Exception):
    pass


# Error 2: no number, no expression, or a division by 0.
class NotReckoned(Exception):
    pass


# Error 3: something is still to be read, and no step is left.
class NoStepLeft(Exception):
    pass


# Error 4: one of the bounds is passed.
class TooMuch(Exception):
    pass
