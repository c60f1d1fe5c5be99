"""Mirrors and turns shapes."""

MOTIONS = 8
QUARTERS = 4


def move_by_each(rows):
    """Give the rows of the shape moved by each motion, from 0 on."""
    return [move(rows, motion) for motion in range(MOTIONS)]


def move(rows, motion):
    """Give the rows of the shape moved by this motion, from 0 to 7."""
    shape = rows
    # A mirrored shape turns the other way round, so the mirroring has to come first.
    if motion >= QUARTERS:
        shape = mirror(shape)
    for quarter in range(motion % QUARTERS):
        shape = turn(shape)
    return shape


def mirror(rows):
    """Give the rows with left and right changed."""
    return [list(reversed(row)) for row in rows]


def turn(rows):
    """Give the rows turned clockwise by a quarter: each column, read upwards, becomes a row."""
    return [column_upwards(rows, x) for x in range(len(rows[0]))]


def column_upwards(rows, x):
    """Give the cells of column x from the bottom to the top."""
    return [row[x] for row in reversed(rows)]
