"""A second counting, built another way: groups that grow together, and holes by Euler's formula.

Rows are written texts of # and . here. Each cell with ink is a full square with its sides and corners; then
corners - sides + squares = pieces - holes, where squares that share a corner are one piece.
"""


def ink(rows):
    return [(x, y) for y, row in enumerate(rows) for x, cell in enumerate(row) if cell == "#"]


def pieces(rows):
    groups = []
    for x, y in ink(rows):
        near = [group for group in groups if any(abs(x - u) <= 1 and abs(y - v) <= 1 for u, v in group)]
        groups = [group for group in groups if group not in near] + [{(x, y)}.union(*near)]
    return len(groups)


def holes(rows):
    corners, sides = set(), set()
    for x, y in ink(rows):
        corners |= {(x, y), (x + 1, y), (x, y + 1), (x + 1, y + 1)}
        sides |= {("across", x, y), ("across", x, y + 1), ("down", x, y), ("down", x + 1, y)}
    return pieces(rows) - (len(corners) - len(sides) + len(ink(rows)))


def size(rows, sounds):
    return [0, len(rows[0]), len(rows), len(ink(rows)), sounds, pieces(rows), holes(rows)]
