"""A second reader, built another way: it gathers every fault by line and rank, and tells the least."""

import re

NAME = re.compile(rb"([A-Z])([a-z]?)([1-9][0-9]{0,2})([a-z]?)")
LIST = re.compile(rb"(?:sign [A-Z][a-z]?[1-9][0-9]{0,2}[a-z]?(?: [a-z]{1,8}){0,8}\n(?:[#.]{1,32}\n){1,32}){1,512}")


def key(name):
    match = NAME.fullmatch(name)
    return match and (match[1], match[2], int(match[3]), match[4])


def bare(rows):
    columns = list(zip(*rows))
    return any(35 not in side for side in (rows[0], rows[-1], columns[0], columns[-1]))


def is_list(whole):
    """Tell, by one pattern and what it can't say, whether the bytes are a list's text."""
    if not LIST.fullmatch(whole):
        return False
    keys = []
    for block in re.split(rb"^sign ", whole, flags=re.MULTILINE)[1:]:
        head, *rows = block.splitlines()
        name, *sounds = head.split(b" ")
        keys.append(key(name))
        if len(set(sounds)) < len(sounds) or len({len(row) for row in rows}) > 1 or bare(rows):
            return False
    return all(one < two for one, two in zip(keys, keys[1:]))


def sign_before_faults(blocks, place):
    rows = blocks[-1][2]
    if not rows:
        return [(0, 1, place)]
    return [(1, 4, blocks[-1][0])] if len({len(row) for row in rows}) == 1 and bare(rows) else []


def word_faults(words, line_end, blocks):
    """Faults of a name and sounds, ranked from 10 on by the word's number and then by kind."""
    if not words:
        return [(10, 1, line_end)]
    place, name = words[0]
    if not key(name):
        return [(10, 1, place)]
    faults = [(11, 2, place)] if blocks and key(name) <= key(blocks[-1][1]) else []
    sounds = [word for _, word in words[1:]]
    for i, (place, word) in enumerate(words[1:]):
        told = [not re.fullmatch(rb"[a-z]{1,8}", word), word in sounds[:i], i >= 8]
        faults += [(20 + 10 * i + kind, kind, place) for kind in (1, 2, 3) if told[kind - 1]]
    return faults


def row_faults(line, start, blocks):
    if not blocks or not line:
        return [(0, 1, start)]
    rows = blocks[-1][2]
    wrong = re.search(rb"[^#.]", line)
    faults = [(1, 1, start + wrong.start())] if wrong else []
    if len(line) > 32 or rows and len(line) != len(rows[0]):
        faults.append((2, 5, start))
    return faults + ([(3, 3, start)] if len(rows) >= 32 else [])


def judge(t):
    whole = bytes(t)
    blocks = []
    for match in re.finditer(rb"([^\n]*)\n|[^\n]+\Z", whole):
        line, start = match[0].rstrip(b"\n"), match.start()
        words = [(start + word.start(), word[0]) for word in re.finditer(rb"(?:(?<= )|\A)[^ ]*", line)]
        if words[0][1] == b"sign":
            faults = sign_before_faults(blocks, start) if blocks else []
            faults += word_faults(words[1:], start + len(line), blocks)
            faults += [(10 ** 9, 3, start)] if len(blocks) >= 512 else []
        else:
            faults = row_faults(line, start, blocks)
        if not match[0].endswith(b"\n"):
            faults.append((10 ** 10, 1, len(whole)))
        if faults:
            return [-6, *min(faults)[1:]]
        if words[0][1] == b"sign":
            blocks.append((start, words[1][1], []))
        else:
            blocks[-1][2].append(line)
    faults = sign_before_faults(blocks, len(whole)) if blocks else [(0, 1, len(whole))]
    return [-6, *min(faults)[1:]] if faults else [len(blocks)]
