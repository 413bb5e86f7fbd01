"""The plain drawing: what each cell of the plane shows.

Edges are a tuple (left, top, right, bottom), the last two not within; they have no cell where they do not rise.
"""

from panelook.panes import PLANE
from panelook.regions import region_of_box
from panelook.sets import both, boxes_of, moved, without
from panelook.sizes import check_size


def corner(panes, pane):
    """The plane's cell (x, y) at which the pane's own first cell lies."""
    chain = outward(panes, pane)
    return (sum([told[2] for told in chain]), sum([told[3] for told in chain]))


def area(panes, pane):
    """The region of the plane's cells at which the pane, and all in which it lies, have cells and are not hidden."""
    chain = outward(panes, pane)
    # Told from the first cell of the pane itself, then of each in which it lies, till it is told from the plane's.
    edges = (0, 0, chain[0][4], chain[0][5])
    for parent, sheet, x, y, w, h, sx, sy, hidden in chain:
        if hidden:
            return ()
        left, top, right, bottom = overlap(edges, (0, 0, w, h))
        edges = (left + x, top + y, right + x, bottom + y)
    return region_within(edges)


def drawing_order(panes):
    """All panes, each ahead of those in it, and with all of these ahead of the next one in the same parent."""
    order = []
    waiting = panes.inside(PLANE)[::-1]
    while waiting:
        pane = waiting.pop()
        order.append(pane)
        waiting.extend(panes.inside(pane)[::-1])
    return order


def shown_at(panes, x, y):
    """The tuple (pane, sheet, x, y) of the sheet cell that the plane's cell shows, None where no area has it."""
    shown = None
    pane = highest_at(panes, PLANE, x, y)
    while pane != PLANE:
        parent, sheet, left, top, w, h, sx, sy, hidden = panes.told(pane)
        x -= left
        y -= top
        shown = (pane, sheet, x + sx, y + sy)
        pane = highest_at(panes, pane, x, y)
    return shown


def shown_in(panes, x, y, w, h):
    """The tuples (pane, region), by rising pane, of the cells in the box that show a pane."""
    seen = seen_in(panes, x, y, w, h)[0]
    return [(pane, moved(seen[pane][0], x, y)) for pane in sorted(seen)]


def bare_in(panes, x, y, w, h):
    """The region of the cells in the box that show no pane."""
    return moved(seen_in(panes, x, y, w, h)[1], x, y)


def drawn(panes, x, y, w, h):
    """The h texts of w signs that the box shows, with a point where no pane is."""
    check_size(w, h)
    board = [["."] * w for row in range(h)]
    seen = seen_in(panes, x, y, w, h)[0]
    for pane in seen:
        region, sheet, sx, sy = seen[pane]
        draw_signs(board, region, panes.sheets_kept(), sheet, sx, sy)
    return ["".join(signs) for signs in board]


def seen_in(panes, x, y, w, h):
    """What a box shows, told from its own first cell: a dict by pane, and the region of the cells that show none.

    The dict has a tuple (region, sheet, x, y) for each pane that is seen: the cells that show it, the sheet, and
    the sheet's cell that lies, or would lie, at the box's first one.
    """
    parts = parts_within(panes, x, y, w, h)
    seen = {}
    bare = region_of_box(0, 0, w, h)
    # From the last one drawn on, so that each has what those over it have left bare.
    for pane in reversed(list(parts)):
        left, top, edges = parts[pane]
        region = both(bare, region_within(edges))
        if region:
            parent, sheet, px, py, pw, ph, sx, sy, hidden = panes.told(pane)
            seen[pane] = (region, sheet, sx - left, sy - top)
            bare = without(bare, region)
    return (seen, bare)


def draw_signs(board, region, sheets, sheet, x, y):
    """Puts the sheet's signs at the region's cells of a board at whose first cell the sheet's cell (x, y) lies."""
    for left, top, w, h in boxes_of(region):
        for row in range(top, top + h):
            for column in range(left, left + w):
                board[row][column] = sheets.sign_at(sheet, column + x, row + y)


def outward(panes, pane):
    """What is told of the pane, then of the one in which it lies, and so on."""
    chain = [panes.told(pane)]
    while chain[-1][0] != PLANE:
        chain.append(panes.told(chain[-1][0]))
    return chain


def highest_at(panes, parent, x, y):
    """The highest pane in the parent that is not hidden and has the cell (x, y) of the parent, the plane for none."""
    for pane in reversed(panes.inside(parent)):
        outer, sheet, left, top, w, h, sx, sy, hidden = panes.told(pane)
        if not hidden and left <= x < left + w and top <= y < top + h:
            return pane
    return PLANE


def parts_within(panes, x, y, w, h):
    """For each pane whose area has cells in the box, in the drawing order, its corner and the edges of these cells.

    They are tuples (x, y, edges), told from the box's first cell.
    """
    parts = {PLANE: (-x, -y, (0, 0, w, h))}
    for pane in drawing_order(panes):
        parent, sheet, px, py, pw, ph, sx, sy, hidden = panes.told(pane)
        # A parent is drawn ahead of what lies in it; where it has no part there, they have none either.
        if hidden or parent not in parts:
            continue
        left, top, edges = parts[parent]
        left += px
        top += py
        edges = overlap(edges, (left, top, left + pw, top + ph))
        if edges[0] < edges[2] and edges[1] < edges[3]:
            parts[pane] = (left, top, edges)
    del parts[PLANE]
    return parts


def overlap(one, other):
    """The edges of the cells that are within both edges."""
    return (max(one[0], other[0]), max(one[1], other[1]), min(one[2], other[2]), min(one[3], other[3]))


def region_within(edges):
    """The region of the cells within the edges."""
    left, top, right, bottom = edges
    return region_of_box(left, top, right - left, bottom - top)
