"""What is still to be read of a text, and the rows of bytes that are read from it."""

from textmill.faults import EndsWithin, TooMuch
from textmill.signs import BOUND, LINE_END, UNDERLINE, place_of, row_of
from textmill.whole import is_digit

# Stands behind the last byte and is none, so that no quote, name or bracket goes on over it.
END = -1


# For each byte if it may stand in a name; the last place is for END, which counts from behind.
def bytes_of_names():
    marks = [False] * 257
    for byte in row_of("abcdefghijklmnopqrstuvwxyzABCDEFGHIJKLMNOPQRSTUVWXYZ0123456789"):
        marks[byte] = True
    marks[UNDERLINE] = True
    return marks


class Source:
    # The bytes stand at the row's far end: what was read leaves room ahead of them, where results go.
    def __init__(self, text):
        self.place = BOUND - len(text)
        self.row = [0] * self.place + text + [END]
        self.in_names = bytes_of_names()

    def has_more(self):
        return self.place < BOUND

    def put_before(self, result):
        if len(result) > self.place:
            raise TooMuch()
        self.place -= len(result)
        row = self.row
        place = self.place
        for byte in result:
            row[place] = byte
            place += 1

    def starts_name(self, byte):
        return self.in_names[byte] and not is_digit(byte)

    def read_name(self):
        row = self.row
        in_names = self.in_names
        start = self.place
        place = start
        while in_names[row[place]]:
            place += 1
        self.place = place
        return tuple(row[start:place])

    # Up to the line's end, with it; to the text's end if there is no other.
    def read_line(self):
        start = self.place
        self.place = min(place_of(self.row, LINE_END, start) + 1, BOUND)
        return self.row[start:self.place]

    def begins_with(self, quote):
        if len(quote) == 1:
            return self.row[self.place] == quote[0]
        return quote != [] and self.stands_at(quote, self.place)

    def stands_at(self, quote, place):
        return self.row[place] == quote[0] and self.row[place:place + len(quote)] == quote

    def read_quoted(self, quotes):
        start = self.place + len(quotes.opening)
        if len(quotes.opening) == 1 and len(quotes.closing) == 1:
            end = self.end_of_bytes(start, quotes.opening[0], quotes.closing[0])
        else:
            end = self.end_of_quotes(start, quotes.opening, quotes.closing)
        self.place = end + len(quotes.closing)
        return self.row[start:end]

    # Quotes of one byte each can't overlap, so it is enough to count the opening ones up to each closing one.
    def end_of_bytes(self, place, opening, closing):
        depth = 1
        while True:
            end = place_of(self.row, closing, place)
            if end > BOUND:
                raise EndsWithin()
            depth += self.row[place:end].count(opening) - 1
            if depth == 0:
                return end
            place = end + 1

    def end_of_quotes(self, place, opening, closing):
        depth = 1
        while place < BOUND:
            if self.stands_at(closing, place):
                depth -= 1
                if depth == 0:
                    return place
                place += len(closing)
            elif self.stands_at(opening, place):
                depth += 1
                place += len(opening)
            else:
                place += 1
        raise EndsWithin()
