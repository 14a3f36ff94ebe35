"""Whole numbers of 64 bits with signs, which go round."""

from textmill.faults import NotReckoned
from textmill.signs import BLANKS, MINUS, NINE, PLUS, ZERO, row_of

HALF = 9223372036854775808
ROUND = 18446744073709551616


def go_round(number):
    return (number + HALF) % ROUND - HALF


def decimal(number):
    return row_of(str(number))


def is_digit(byte):
    return ZERO <= byte <= NINE


def skip_blanks(text, place):
    while place < len(text) and text[place] in BLANKS:
        place += 1
    return place


def skip_digits(text, place):
    while place < len(text) and is_digit(text[place]):
        place += 1
    return place


# Digit by digit and kept short, as the digits may be as many as a text has bytes.
def value_of_digits(digits):
    value = 0
    for byte in digits:
        value = (value * 10 + byte - ZERO) % ROUND
    return value


# An argument that is a number: blanks, a sign, digits; 0 without anything.
def number_of(text):
    place = skip_blanks(text, 0)
    if place == len(text):
        return 0
    below = text[place] == MINUS
    if below or text[place] == PLUS:
        place += 1
    if place == len(text) or skip_digits(text, place) < len(text):
        raise NotReckoned()
    value = value_of_digits(text[place:])
    return go_round(-value if below else value)
