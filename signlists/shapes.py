"""Tells how a shape hangs together: its cells with ink, its pieces and its holes."""

from signlists.reading import INK, NO_INK

SIDES = ((0, -1), (-1, 0), (1, 0), (0, 1))
SIDES_AND_CORNERS = ((-1, -1), (0, -1), (1, -1), (-1, 0), (1, 0), (-1, 1), (0, 1), (1, 1))


def count_ink(rows):
    """Count the cells with ink."""
    return len(places_of(rows, INK))


def count_pieces(rows):
    """Count the groups of cells with ink that hang together by sides or corners."""
    return count_groups(places_of(rows, INK), SIDES_AND_CORNERS)


def count_holes(rows):
    """Count the groups of cells without ink that hang together by sides and with none outside."""
    # The outside is one group for itself, with whatever hangs together with it, and is no hole.
    return count_groups(places_of(with_outside(rows), NO_INK), SIDES) - 1


def with_outside(rows):
    """Give the rows with a ring of cells from outside round them."""
    width = len(rows[0])
    above = [NO_INK] * (width + 2)
    below = [NO_INK] * (width + 2)
    return [above] + [[NO_INK] + row + [NO_INK] for row in rows] + [below]


def places_of(rows, wanted):
    """Give the places (x, y) of the wanted cells, as the keys of a dict."""
    places = {}
    for y, row in enumerate(rows):
        for x, cell in enumerate(row):
            if cell == wanted:
                places[(x, y)] = True
    return places


def count_groups(places, steps):
    """Count the groups of places in which each is reached from each by these steps."""
    groups = 0
    reached = {}
    for place in places:
        if place not in reached:
            groups = groups + 1
            reach_group(place, places, steps, reached)
    return groups


def reach_group(start, places, steps, reached):
    """Add to reached every place that is reached from start, and start itself."""
    reached[start] = True
    # A list of places to go on from, and no recursion: a group may have more cells than calls may be nested.
    waiting = [start]
    while len(waiting) > 0:
        place = waiting.pop()
        for step in steps:
            beside = (place[0] + step[0], place[1] + step[1])
            if beside in places and beside not in reached:
                reached[beside] = True
                waiting.append(beside)
