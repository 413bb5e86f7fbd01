"""Regions: what has their form, and how they are made of boxes."""

from panelook.sets import either


def is_region(thing):
    """Whether the thing, which may be anything, is a region."""
    # Each band is looked at ahead of how two of them follow, so that only what is known to be bands is compared.
    if not isinstance(thing, tuple) or not all(is_band(part) for part in thing):
        return False
    return all(may_follow(band, after) for band, after in zip(thing, thing[1:]))


def is_band(thing):
    """Whether the thing is a band (y0, y1, spans) that some region may have."""
    if not isinstance(thing, tuple) or len(thing) != 3:
        return False
    return are_rising(thing[0], thing[1]) and are_spans(thing[2])


def may_follow(band, after):
    """Whether the second of two bands may stand next behind the first."""
    if after[0] == band[1]:
        return after[2] != band[2]
    return after[0] > band[1]


def are_spans(thing):
    """Whether the thing is a tuple of spans, at least one, with a cell or more between each two."""
    if not isinstance(thing, tuple) or not thing or not all(is_span(part) for part in thing):
        return False
    return all(after[0] > span[1] for span, after in zip(thing, thing[1:]))


def is_span(thing):
    """Whether the thing is a span (x0, x1) of at least one cell."""
    return isinstance(thing, tuple) and len(thing) == 2 and are_rising(thing[0], thing[1])


def are_rising(low, high):
    """Whether the two things are whole numbers, the first the lesser one."""
    return is_whole(low) and is_whole(high) and low < high


def is_whole(thing):
    """Whether the thing is a whole number."""
    # Python counts True and False among the ints.
    return isinstance(thing, int) and not isinstance(thing, bool)


def region_of_box(x, y, w, h):
    """The region of the cells of a box, () where w or h is below 1."""
    if w < 1 or h < 1:
        return ()
    return ((y, y + h, ((x, x + w),)),)


def region_of(boxes):
    """The region of the cells of all boxes (x, y, w, h) of a list."""
    parts = [region_of_box(x, y, w, h) for x, y, w, h in boxes]
    # Joined two and two: joining one box after the other would walk all that is joined already for each of them.
    while len(parts) > 1:
        if len(parts) & 1:
            parts.append(())
        parts = [either(parts[at], parts[at + 1]) for at in range(0, len(parts), 2)]
    return parts[0] if parts else ()
