"""The calls: each takes a list's text and answers a list of whole numbers."""

from signlists.reading import read_list

MOST_BYTES = 1048576

TOO_LONG = -2
NOT_THERE = -5
NO_LIST = -6


def judge(t):
    """Answer how many signs the list has, or the text's first fault."""
    if len(t) > MOST_BYTES:
        return [TOO_LONG]
    reading = read_list(t)
    if reading.fault is not None:
        return [NO_LIST, reading.fault[0], reading.fault[1]]
    return [len(reading.signs)]


def find(t, s):
    """Answer the number of the sign whose name s is."""
    if len(t) > MOST_BYTES or len(s) > MOST_BYTES:
        return [TOO_LONG]
    reading = read_list(t)
    if reading.fault is not None:
        return [NO_LIST]
    # Every name has one spelling, so a text that is no name equals none of them.
    for number, sign in enumerate(reading.signs):
        if sign.name == s:
            return [number]
    return [NOT_THERE]
