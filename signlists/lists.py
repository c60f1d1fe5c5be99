"""The calls: each takes a list's text and answers a list of whole numbers."""

from signlists.motions import MOTIONS, move, move_by_each
from signlists.reading import LINE_FEED, MOST_BYTES, read_list
from signlists.shapes import count_holes, count_ink, count_pieces

NOT_REFUSED = 0
NO_MOTION = -1
TOO_LONG = -2
NO_SUCH = -4
NOT_THERE = -5
NO_LIST = -6


def judge(t):
    """Answer how many signs the list has, or the text's first fault."""
    reading = read_list(t)
    refusal = text_refusal(reading)
    if refusal == NO_LIST:
        return [refusal, reading.fault[0], reading.fault[1]]
    if refusal != NOT_REFUSED:
        return [refusal]
    return [len(reading.signs)]


def find(t, s):
    """Answer the number of the sign whose name s is."""
    if len(s) > MOST_BYTES:
        return [TOO_LONG]
    reading = read_list(t)
    refusal = text_refusal(reading)
    if refusal != NOT_REFUSED:
        return [refusal]
    # Every name has one spelling, so a text that is no name equals none of them.
    for number, sign in enumerate(reading.signs):
        if sign.name == s:
            return [number]
    return [NOT_THERE]


def name(k, t):
    """Answer how many bytes the name of sign k has, and they."""
    reading = read_list(t)
    refusal = sign_refusal(reading, k)
    if refusal != NOT_REFUSED:
        return [refusal]
    return counted(reading.signs[k].name)


def size(k, t):
    """Answer 0, and of sign k: width, height, cells with ink, sounds, pieces, holes."""
    reading = read_list(t)
    refusal = sign_refusal(reading, k)
    if refusal != NOT_REFUSED:
        return [refusal]
    sign = reading.signs[k]
    rows = sign.rows
    return [0, len(rows[0]), len(rows), count_ink(rows), len(sign.sounds), count_pieces(rows), count_holes(rows)]


def sound(k, i, t):
    """Answer how many letters sound i of sign k has, and they."""
    reading = read_list(t)
    refusal = sign_refusal(reading, k)
    if refusal != NOT_REFUSED:
        return [refusal]
    sounds = reading.signs[k].sounds
    if i >= len(sounds):
        return [NO_SUCH]
    return counted(sounds[i])


def moved(k, m, t):
    """Answer how many bytes the rows of sign k's shape moved by motion m have in a list's text, and they."""
    reading = read_list(t)
    refusal = motion_refusal(reading, m)
    if refusal == NOT_REFUSED:
        refusal = sign_refusal(reading, k)
    if refusal != NOT_REFUSED:
        return [refusal]
    return counted(text_of_rows(move(reading.signs[k].rows, m)))


def alike(i, j, t):
    """Answer the least motion that takes sign i's shape to sign j's."""
    reading = read_list(t)
    # If one of the two numbers is no sign's, the greater one is none.
    refusal = sign_refusal(reading, max(i, j))
    if refusal != NOT_REFUSED:
        return [refusal]
    wanted = reading.signs[j].rows
    for motion, rows in enumerate(move_by_each(reading.signs[i].rows)):
        if rows == wanted:
            return [motion]
    return [NOT_THERE]


def next_of(i, t):
    """Answer the least number above i of a sign alike to sign i."""
    reading = read_list(t)
    refusal = sign_refusal(reading, i)
    if refusal != NOT_REFUSED:
        return [refusal]
    shapes = move_by_each(reading.signs[i].rows)
    for number in range(i + 1, len(reading.signs)):
        if reading.signs[number].rows in shapes:
            return [number]
    return [NOT_THERE]


def counted(values):
    """Give how many values there are, and they."""
    return [len(values)] + values


def text_of_rows(rows):
    """Give the rows as they stand in a list's text."""
    written = []
    for row in rows:
        written.extend(row)
        written.append(LINE_FEED)
    return written


def text_refusal(reading):
    """Give the refusal of the text that was read."""
    if reading.too_long:
        return TOO_LONG
    if reading.fault is not None:
        return NO_LIST
    return NOT_REFUSED


def motion_refusal(reading, m):
    """Give the refusal of the text that was read, or else that of a number m that no motion has."""
    refusal = text_refusal(reading)
    if refusal == NOT_REFUSED and m >= MOTIONS:
        return NO_MOTION
    return refusal


def sign_refusal(reading, k):
    """Give the refusal of the text that was read, or else that of a number k that none of its signs has."""
    refusal = text_refusal(reading)
    if refusal == NOT_REFUSED and k >= len(reading.signs):
        return NO_SUCH
    return refusal
