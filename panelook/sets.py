"""What is told of two regions, and of one.

A region is a tuple of bands (y0, y1, spans), spans a tuple of tuples (x0, x1). Its form, which gives
each set of cells one region alone, is told by is_region in panelook/regions.py.
"""


def either(one, other):
    """The region of the cells of one region or the other or both."""
    return combined(one, other, lambda here, there: here or there)


def both(one, other):
    """The region of the cells that the two regions share."""
    return combined(one, other, lambda here, there: here and there)


def without(one, other):
    """The region of the cells of the first region that are not the second's."""
    return combined(one, other, lambda here, there: here and not there)


def moved(region, dx, dy):
    """The region with its every cell (x, y) at (x + dx, y + dy)."""
    return tuple([(y0 + dy, y1 + dy, tuple([(x0 + dx, x1 + dx) for x0, x1 in spans])) for y0, y1, spans in region])


def cells_in(region):
    """How many cells the region has."""
    return sum([(x1 - x0) * (y1 - y0) for y0, y1, spans in region for x0, x1 in spans])


def has_cell(region, x, y):
    """Whether the region has the cell (x, y)."""
    return any(y0 <= y < y1 and x0 <= x < x1 for y0, y1, spans in region for x0, x1 in spans)


def boxes_of(region):
    """The boxes (x, y, w, h) of the region, one for each span of each band, in their order."""
    return [(x0, y0, x1 - x0, y1 - y0) for y0, y1, spans in region for x0, x1 in spans]


def bounds(region):
    """The least box (x, y, w, h) that has all cells of the region, None where it has none."""
    if not region:
        return None
    top = region[0][0]
    bottom = region[-1][1]
    left = min([spans[0][0] for y0, y1, spans in region])
    right = max([spans[-1][1] for y0, y1, spans in region])
    return (left, top, right - left, bottom - top)


def lies_in(one, other):
    """Whether all cells of the first region are the second's."""
    return not without(one, other)


def combined(one, other, keeps):
    """The region of the cells for which keeps(is it in one, is it in the other) holds."""
    bands = []
    for y0, y1, here, there in stretches(spans_from(one), spans_from(other), ()):
        add_band(bands, y0, y1, combined_spans(here, there, keeps))
    return tuple(bands)


def combined_spans(ones, others, keeps):
    """The spans of the places for which keeps(is it in ones, is it in others) holds."""
    if not ones or not others:
        # Most rows of a large region meet none of a small one: they are kept or left as a whole.
        return (ones or others) if keeps(bool(ones), bool(others)) else ()
    spans = []
    for x0, x1, here, there in stretches(inside_from(ones), inside_from(others), False):
        if keeps(here, there):
            add_span(spans, x0, x1)
    return tuple(spans)


def stretches(ones, others, nothing):
    """The stretches (start, end, here, there) along which neither ones nor others change.

    Both are dicts of what holds from a place on; nothing is what holds ahead of their first place.
    """
    edges = sorted(set(list(ones) + list(others)))
    here = nothing
    there = nothing
    found = []
    for start, end in zip(edges, edges[1:]):
        here = ones.get(start, here)
        there = others.get(start, there)
        found.append((start, end, here, there))
    return found


def spans_from(region):
    """For each row at which the spans of the region change, the spans from there on."""
    changes = {}
    for y0, y1, spans in region:
        # Where this band begins at the end of the one ahead, its spans take the place of that one's ().
        changes[y0] = spans
        changes[y1] = ()
    return changes


def inside_from(spans):
    """For each end of the spans, whether the places from there on are in one of them."""
    changes = {}
    for x0, x1 in spans:
        changes[x0] = True
        changes[x1] = False
    return changes


def add_band(bands, y0, y1, spans):
    """Adds a band below the others, joined to the last one where the form asks for it."""
    if not spans:
        return
    if bands and bands[-1][1] == y0 and bands[-1][2] == spans:
        bands[-1] = (bands[-1][0], y1, spans)
    else:
        bands.append((y0, y1, spans))


def add_span(spans, x0, x1):
    """Adds a span to the right of the others, joined to the last one where they touch."""
    if spans and spans[-1][1] == x0:
        spans[-1] = (spans[-1][0], x1)
    else:
        spans.append((x0, x1))
