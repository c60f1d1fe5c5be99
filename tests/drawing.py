"""Shapes for the tests, as rows that are written texts of # and . here, and a second moving of them, cell by cell."""

# Shapes that no motion takes to themselves, each with its rows by the motions 0 to 7.
DUE = (
    ("##./#.#/", "##/.#/#./", "#.#/.##/", ".#/#./##/", ".##/#.#/", "#./.#/##/", "#.#/##./", "##/#./.#/"),
    (
        "###/#../##./#../", "####/.#.#/...#/", "..#/.##/..#/###/", "#.../#.#./####/",
        "###/..#/.##/..#/", "...#/.#.#/####/", "#../##./#../###/", "####/#.#./#.../",
    ),
    (
        "##./#../.##/", ".##/#.#/#../", "##./..#/.##/", "..#/#.#/##./",
        ".##/..#/##./", "#../#.#/.##/", ".##/#../##./", "##./#.#/..#/",
    ),
)


def drawn(width, height, has_ink):
    """Give the rows of a shape, with ink in the cells (x, y) for which has_ink tells so."""
    return ["".join("#" if has_ink(x, y) else "." for x in range(width)) for y in range(height)]


def written(rows):
    return "".join(row + "/" for row in rows)


def rows_of(shape):
    """Give the rows of a shape that is written with a / behind each of them."""
    return shape[:-1].split("/")


def listed(shapes):
    """Give the text of a list whose signs have these shapes, each written with a / behind each row."""
    return "".join(f"sign A{number + 1}/{shape}" for number, shape in enumerate(shapes))


def is_shape(rows):
    columns = ["".join(column) for column in zip(*rows)]
    return all("#" in side for side in (rows[0], rows[-1], columns[0], columns[-1]))


def drawn_by_lot(source, most, share):
    """Give the rows of a shape with sides of up to that many cells, of which about that share has ink."""
    while True:
        rows = drawn(source.randint(1, most), source.randint(1, most), lambda x, y: source.random() < share)
        if is_shape(rows):
            return rows


def moved(rows, m):
    """Give the rows moved by motion m: where the document's words take each cell with ink."""
    width, height = len(rows[0]), len(rows)
    ink = {(x, y) for y, row in enumerate(rows) for x, cell in enumerate(row) if cell == "#"}
    if m >= 4:
        ink = {(width - 1 - x, y) for x, y in ink}
    for _ in range(m % 4):
        ink = {(height - 1 - y, x) for x, y in ink}
        width, height = height, width
    return drawn(width, height, lambda x, y: (x, y) in ink)


def least_motion(shape, other):
    """Give the least motion that takes the first shape to the other, both written; None if none does."""
    motions = [m for m in range(8) if written(moved(rows_of(shape), m)) == other]
    return min(motions, default=None)


def both(first, second):
    """Give the motion that is the first one and then the second one."""
    # Mirroring makes a clockwise turn before it one against the clock.
    quarters = second % 4 + (first % 4 if second < 4 else -first % 4)
    return quarters % 4 + (4 if (first < 4) != (second < 4) else 0)


def undoing(m):
    """Give the motion that undoes motion m: a turn back, or the same one where it mirrors."""
    return m if m >= 4 else -m % 4
