"""The plain drawing: what each cell of the plane shows.

Edges are a tuple (left, top, right, bottom), the last two not within; they have no cell where they do not rise.
"""

from panelook.panes import PLANE
from panelook.regions import region_of_box
from panelook.sets import both, boxes_of, without
from panelook.sizes import check_size


def corner(panes, pane):
    """The plane's cell (x, y) at which the pane's own first cell lies."""
    chain = outward(panes, pane)
    return (sum([told[2] for told in chain]), sum([told[3] for told in chain]))


def area(panes, pane):
    """The region of the plane's cells at which the pane, and all in which it lies, have cells and are not hidden."""
    chain = outward(panes, pane)
    # Told from the first cell of the pane itself, then of each in which it lies, till it is told from the plane's.
    edges = (0, 0, chain[0][4], chain[0][5])
    for parent, sheet, x, y, w, h, sx, sy, hidden in chain:
        if hidden:
            return ()
        left, top, right, bottom = overlap(edges, (0, 0, w, h))
        edges = (left + x, top + y, right + x, bottom + y)
    return region_within(edges)


def drawing_order(panes):
    """All panes, each ahead of those in it, and with all of these ahead of the next one in the same parent."""
    order = []
    waiting = panes.inside(PLANE)[::-1]
    while waiting:
        pane = waiting.pop()
        order.append(pane)
        waiting.extend(panes.inside(pane)[::-1])
    return order


def shown_at(panes, x, y):
    """The tuple (pane, sheet, x, y) of the sheet cell that the plane's cell shows, None where no area has it."""
    shown = None
    pane = highest_at(panes, PLANE, x, y)
    while pane != PLANE:
        parent, sheet, left, top, w, h, sx, sy, hidden = panes.told(pane)
        x -= left
        y -= top
        shown = (pane, sheet, x + sx, y + sy)
        pane = highest_at(panes, pane, x, y)
    return shown


def shown_in(panes, x, y, w, h):
    """The tuples (pane, region), by rising pane, of the cells in the box that show a pane."""
    shown = shown_and_bare(panes, x, y, w, h)[0]
    return [(pane, shown[pane]) for pane in sorted(shown)]


def bare_in(panes, x, y, w, h):
    """The region of the cells in the box that show no pane."""
    return shown_and_bare(panes, x, y, w, h)[1]


def drawn(panes, x, y, w, h):
    """The h texts of w signs that the box shows, with a point where no pane is."""
    check_size(w, h)
    board = [["."] * w for row in range(h)]
    for pane, region in shown_in(panes, x, y, w, h):
        draw_pane(board, x, y, panes, pane, region)
    return ["".join(signs) for signs in board]


def outward(panes, pane):
    """What is told of the pane, then of the one in which it lies, and so on."""
    chain = [panes.told(pane)]
    while chain[-1][0] != PLANE:
        chain.append(panes.told(chain[-1][0]))
    return chain


def highest_at(panes, parent, x, y):
    """The highest pane in the parent that is not hidden and has the cell (x, y) of the parent, the plane for none."""
    for pane in reversed(panes.inside(parent)):
        outer, sheet, left, top, w, h, sx, sy, hidden = panes.told(pane)
        if not hidden and left <= x < left + w and top <= y < top + h:
            return pane
    return PLANE


def shown_and_bare(panes, x, y, w, h):
    """The cells of a box as a dict of regions by the pane that they show, and the region of those that show none."""
    parts = parts_within(panes, (x, y, x + w, y + h))
    shown = {}
    bare = region_of_box(x, y, w, h)
    # From the last one drawn on, so that each has what those over it have left bare.
    for pane in reversed(list(parts)):
        region = both(bare, region_within(parts[pane]))
        if region:
            shown[pane] = region
            bare = without(bare, region)
    return (shown, bare)


def parts_within(panes, edges):
    """The edges of what lies within the told ones of each area that has cells there, in the drawing order."""
    corners = {PLANE: (0, 0)}
    parts = {PLANE: edges}
    for pane in drawing_order(panes):
        parent, sheet, x, y, w, h, sx, sy, hidden = panes.told(pane)
        # A parent is drawn ahead of what lies in it; where it has no part there, they have none either.
        if hidden or parent not in parts:
            continue
        left = corners[parent][0] + x
        top = corners[parent][1] + y
        part = overlap(parts[parent], (left, top, left + w, top + h))
        if part[0] < part[2] and part[1] < part[3]:
            corners[pane] = (left, top)
            parts[pane] = part
    del parts[PLANE]
    return parts


def overlap(one, other):
    """The edges of the cells that are within both edges."""
    return (max(one[0], other[0]), max(one[1], other[1]), min(one[2], other[2]), min(one[3], other[3]))


def region_within(edges):
    """The region of the cells within the edges."""
    left, top, right, bottom = edges
    return region_of_box(left, top, right - left, bottom - top)


def draw_pane(board, x, y, panes, pane, region):
    """Puts onto the board, whose first cell is the plane's (x, y), the signs of the cells that show the pane."""
    left, top = corner(panes, pane)
    parent, sheet, px, py, pw, ph, sx, sy, hidden = panes.told(pane)
    sheets = panes.sheets_kept()
    for box_x, box_y, box_w, box_h in boxes_of(region):
        for row in range(box_y, box_y + box_h):
            for column in range(box_x, box_x + box_w):
                board[row - y][column - x] = sheets.sign_at(sheet, column - left + sx, row - top + sy)
