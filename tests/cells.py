"""Sets of cells held cell by cell, apart from the program, to hold its regions against."""

FAR = 10 ** 60 - 1  # the greatest number of sixty figures
# A number that Python does not write out; cells_in tells such ones, asked of a box as wide as what it told, and so on.
HUGE = FAR ** 256


def cells_of(region):
    """The set of the cells of a small region, as [5] tells them."""
    return {(x, y) for y0, y1, spans in region for x0, x1 in spans
            for y in range(y0, y1) for x in range(x0, x1)}


def cells_of_box(box):
    """The set of the cells of a small box, as [6] tells them."""
    left, top, w, h = box
    return {(x, y) for x in range(left, left + w) for y in range(top, top + h)}


def spans_of_row(cells, y):
    """The spans of one row, found one cell after the other."""
    spans = []
    for x in sorted(x for x, row in cells if row == y):
        if spans and spans[-1][1] == x:
            spans[-1][1] = x + 1
        else:
            spans.append([x, x + 1])
    return tuple((x0, x1) for x0, x1 in spans)


def region_by_rows(cells):
    """The one region of a set of cells, found one row after the other."""
    bands = []
    for y in sorted({y for x, y in cells}):
        spans = spans_of_row(cells, y)
        if bands and bands[-1][1] == y and bands[-1][2] == spans:
            bands[-1][1] = y + 1
        else:
            bands.append([y, y + 1, spans])
    return tuple((y0, y1, spans) for y0, y1, spans in bands)


def is_plain(thing):
    """Whether the thing is made of plain tuples and of ints that are no truths alone."""
    if type(thing) is tuple:
        return all(is_plain(part) for part in thing)
    return type(thing) is int


def all_sets(w, h):
    """Every set of cells of a box of w by h cells."""
    places = [(x, y) for y in range(h) for x in range(w)]
    return [{place for at, place in enumerate(places) if number >> at & 1}
            for number in range(2 ** len(places))]
