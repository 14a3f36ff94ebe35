"""Texts that are put together: in quotes, with commas, and with arguments filled in."""

from textmill.faults import TooMuch
from textmill.signs import AT, COMMA, DOLLAR, FIRST_CLOSING, FIRST_OPENING, HASH, NINE, STAR, ZERO, place_of
from textmill.whole import decimal


class Quotes:
    def __init__(self, opening, closing):
        self.opening = opening
        self.closing = closing

    def put_round(self, text):
        return self.opening + text + self.closing


def first_quotes():
    return Quotes([FIRST_OPENING], [FIRST_CLOSING])


def with_commas(texts):
    row = []
    for text in texts:
        row.append(COMMA)
        row.extend(text)
    return row[1:]


# The length is asked first: long quotes round many texts would come to far more than may be read.
def quoted_with_commas(texts, quotes, room):
    size = sum([len(text) + 1 for text in texts]) - 1
    size += len(texts) * (len(quotes.opening) + len(quotes.closing))
    if size > room:
        raise TooMuch()
    return with_commas([quotes.put_round(text) for text in texts])


# What $ with this byte behind it becomes; None if it stays.
def stand_in(byte, call, quotes, room):
    if byte == ZERO:
        return list(call.name)
    if ZERO < byte <= NINE:
        place = byte - ZERO - 1
        return call.arguments[place] if place < len(call.arguments) else []
    if byte == HASH:
        return decimal(len(call.arguments))
    if byte == STAR:
        return with_commas(call.arguments)
    if byte == AT:
        return quoted_with_commas(call.arguments, quotes, room)
    return None


# Stops as soon as the result has no room, before it grows without measure.
def fill_in(call, quotes, room):
    text = call.meaning.text
    result = []
    place = 0
    while place < len(text):
        dollar = place_of(text, DOLLAR, place)
        result.extend(text[place:dollar])
        place = dollar + 1
        if place < len(text):
            piece = stand_in(text[place], call, quotes, room)
            if piece is None:
                result.append(DOLLAR)
            else:
                result.extend(piece)
                place += 1
        elif place == len(text):
            result.append(DOLLAR)
        if len(result) > room:
            raise TooMuch()
    return result
