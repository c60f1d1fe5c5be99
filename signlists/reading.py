"""Reads a list's text strictly: its signs, or the first fault that it has."""

LINE_FEED = 10
BLANK = 32
INK = 35
NO_INK = 46
DIGIT_0 = 48
DIGIT_9 = 57
CAPITAL_A = 65
CAPITAL_Z = 90
SMALL_A = 97
SMALL_Z = 122
SIGN_WORD = (115, 105, 103, 110)

MOST_BYTES = 1048576
MOST_SIGNS = 512
MOST_SOUNDS = 8
MOST_LETTERS = 8
MOST_CELLS = 32
MOST_DIGITS = 3

WRONG_FORM = 1
WRONG_ORDER = 2
TOO_MANY = 3
BARE_RIM = 4
WRONG_WIDTH = 5


class Sign:
    """A sign as far as it has been read; place is where its sign line begins."""

    def __init__(self, place, name, sounds):
        self.place = place
        self.name = name
        self.sounds = sounds
        self.rows = []


class Reading:
    """What a text tells: its signs, and its first fault as (kind, place), or None; nothing if it is too long."""

    def __init__(self, too_long):
        self.too_long = too_long
        self.signs = []
        self.fault = None


def read_list(t):
    """Read the text up to its end or its first fault, unless it is too long."""
    reading = Reading(len(t) > MOST_BYTES)
    if reading.too_long:
        return reading
    start = 0
    while start < len(t):
        end = line_end(t, start)
        reading.fault = take_line(t, start, end, reading.signs)
        if reading.fault is None and end == len(t):
            reading.fault = (WRONG_FORM, end)
        if reading.fault is not None:
            return reading
        start = end + 1
    reading.fault = text_end_fault(reading.signs, len(t))
    return reading


def line_end(t, start):
    """Give the place of the line's byte 10, or the text's end where it has none."""
    end = start
    while end < len(t) and t[end] != LINE_FEED:
        end = end + 1
    return end


def take_line(t, start, end, signs):
    """Add to signs what the line tells; give the line's fault, or None."""
    words = split_words(t, start, end)
    if tuple(words[0][1]) == SIGN_WORD:
        return take_sign_line(words, start, end, signs)
    return take_row(t[start:end], start, signs)


def split_words(t, start, end):
    """Give the line's words, each as (place, bytes); between two blanks there is an empty one."""
    words = []
    word_start = start
    for at in range(start, end):
        if t[at] == BLANK:
            words.append((word_start, t[word_start:at]))
            word_start = at + 1
    words.append((word_start, t[word_start:end]))
    return words


def take_sign_line(words, start, end, signs):
    """Add the line's sign to signs; give the line's fault, or None."""
    fault = sign_line_fault(words, start, end, signs)
    if fault is None:
        sounds = [word[1] for word in words[2:]]
        signs.append(Sign(start, words[1][1], sounds))
    return fault


def sign_line_fault(words, start, end, signs):
    """Give the sign line's first fault; that of the sign which it ends comes before its own."""
    fault = None
    if len(signs) > 0:
        fault = whole_sign_fault(signs[-1], start)
    if fault is None:
        fault = name_fault(words, end, signs)
    if fault is None:
        fault = sounds_fault(words[2:])
    if fault is None and len(signs) == MOST_SIGNS:
        fault = (TOO_MANY, start)
    return fault


def text_end_fault(signs, end):
    """Give what is wrong with a text of right lines that ends here, or None."""
    if len(signs) == 0:
        return (WRONG_FORM, end)
    return whole_sign_fault(signs[-1], end)


def whole_sign_fault(sign, place):
    """Give what is wrong with a sign that has no further row from this place on, or None."""
    if len(sign.rows) == 0:
        return (WRONG_FORM, place)
    if has_bare_rim(sign.rows):
        return (BARE_RIM, sign.place)
    return None


def has_bare_rim(rows):
    """Tell whether the first or last row or the first or last column has no ink."""
    left = [row[0] for row in rows]
    right = [row[-1] for row in rows]
    return any([INK not in side for side in (rows[0], rows[-1], left, right)])


def name_fault(words, end, signs):
    """Give the fault of the sign line's name, or None."""
    if len(words) == 1:
        return (WRONG_FORM, end)
    key = name_key(words[1][1])
    if key is None:
        return (WRONG_FORM, words[1][0])
    if len(signs) > 0 and key <= name_key(signs[-1].name):
        return (WRONG_ORDER, words[1][0])
    return None


def name_key(word):
    """Give the four parts that names are ordered by, 0 for one that is not there; None if the word is no name."""
    if len(word) == 0 or not CAPITAL_A <= word[0] <= CAPITAL_Z:
        return None
    second = small_letter_at(word, 1)
    digits_start = 1 if second == 0 else 2
    digits_end = digit_run_end(word, digits_start)
    number = number_of(word[digits_start:digits_end])
    kind = small_letter_at(word, digits_end)
    name_end = digits_end if kind == 0 else digits_end + 1
    if number == 0 or name_end != len(word):
        return None
    return (word[0], second, number, kind)


def small_letter_at(word, at):
    """Give the small letter at this place of the word, or 0 where there is none."""
    if at < len(word) and is_small_letter(word[at]):
        return word[at]
    return 0


def is_small_letter(value):
    return SMALL_A <= value <= SMALL_Z


def digit_run_end(word, start):
    """Give the place behind the digits that begin at start."""
    end = start
    while end < len(word) and DIGIT_0 <= word[end] <= DIGIT_9:
        end = end + 1
    return end


def number_of(digits):
    """Give the number from 1 to 999 that the digits write, or 0 where they write none."""
    if len(digits) == 0 or len(digits) > MOST_DIGITS or digits[0] == DIGIT_0:
        return 0
    number = 0
    for digit in digits:
        number = number * 10 + digit - DIGIT_0
    return number


def sounds_fault(words):
    """Give the first fault of the words that stand for sounds, or None."""
    sounds = []
    for place, word in words:
        if not is_sound(word):
            return (WRONG_FORM, place)
        if word in sounds:
            return (WRONG_ORDER, place)
        if len(sounds) == MOST_SOUNDS:
            return (TOO_MANY, place)
        sounds.append(word)
    return None


def is_sound(word):
    return 1 <= len(word) <= MOST_LETTERS and all([is_small_letter(value) for value in word])


def take_row(row, start, signs):
    """Add the row to the last sign; give the row's fault, or None."""
    if len(signs) == 0 or len(row) == 0:
        return (WRONG_FORM, start)
    fault = row_fault(row, start, signs[-1].rows)
    if fault is None:
        signs[-1].rows.append(row)
    return fault


def row_fault(row, start, rows):
    """Give the fault of a row that follows these rows, or None."""
    for at, cell in enumerate(row):
        if cell != INK and cell != NO_INK:
            return (WRONG_FORM, start + at)
    if len(row) > MOST_CELLS or (len(rows) > 0 and len(row) != len(rows[0])):
        return (WRONG_WIDTH, start)
    if len(rows) == MOST_CELLS:
        return (TOO_MANY, start)
    return None
