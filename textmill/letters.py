"""Bytes that become other bytes, with ranges."""

from textmill.signs import MINUS

# What a byte becomes that goes; no byte is below 0.
GONE = -1


# What comes behind `first` on the way to `last`, up or down.
def way_to(first, last):
    if first <= last:
        return list(range(first + 1, last + 1))
    return list(range(first - 1, last - 1, -1))


# A range's first byte stands in the row already when its minus is met; so a-c-e goes on from c.
def spread_ranges(text):
    row = []
    place = 0
    while place < len(text):
        if text[place] == MINUS and 0 < place < len(text) - 1:
            row.extend(way_to(text[place - 1], text[place + 1]))
            place += 2
        else:
            row.append(text[place])
            place += 1
    return row


def changes_of(before, after):
    changes = {}
    targets = spread_ranges(after)
    for place, byte in enumerate(spread_ranges(before)):
        if byte not in changes:
            changes[byte] = targets[place] if place < len(targets) else GONE
    return changes


def changed_letters(text, before, after):
    changes = changes_of(before, after)
    changed = [changes.get(byte, byte) for byte in text]
    return [byte for byte in changed if byte != GONE]
