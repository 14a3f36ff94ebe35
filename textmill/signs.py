"""The bytes that mean something by themselves, by ASCII, and rows of bytes."""

# What a row may hold of bytes: those still to be read, those in calls, names and texts, texts put by.
BOUND = 65536

BLANKS = (9, 10, 11, 12, 13, 32)
LINE_END = 10
HASH = 35
DOLLAR = 36
FIRST_CLOSING = 39
LEFT_BRACKET = 40
RIGHT_BRACKET = 41
STAR = 42
PLUS = 43
COMMA = 44
MINUS = 45
ZERO = 48
NINE = 57
AT = 64
UNDERLINE = 95
FIRST_OPENING = 96


def row_of(word):
    return [ord(sign) for sign in word]


# Where the byte stands first from `start` on; behind the row's end if nowhere.
def place_of(row, byte, start):
    try:
        return row.index(byte, start)
    except ValueError:
        return len(row)


# How long an end of the row so far is also the beginning of `row`, for each place.
def overlaps(row):
    found = [0]
    size = 0
    for byte in row[1:]:
        while size > 0 and row[size] != byte:
            size = found[size - 1]
        if row[size] == byte:
            size += 1
        found.append(size)
    return found


# Goes on from the overlaps where a byte differs, so that long rows that are nearly alike take no longer.
def place_of_row(row, part):
    if part == []:
        return 0
    shared = overlaps(part)
    size = 0
    for place, byte in enumerate(row):
        while size > 0 and part[size] != byte:
            size = shared[size - 1]
        if part[size] == byte:
            size += 1
        if size == len(part):
            return place + 1 - size
    return -1
