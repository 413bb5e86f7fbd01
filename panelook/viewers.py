"""Viewers: windows on the plane, each with a board that is kept by shifting what still stands and painting the rest.

What a board shows is held as seen_in in panelook/drawing.py tells it.
"""

from panelook.drawing import draw_signs, seen_in
from panelook.panes import PLANE
from panelook.sets import both, boxes_of, either, moved, without
from panelook.sizes import check_size


class Viewer:
    """A window on the plane, and a board that shows it as of the last refreshing."""

    def __init__(self, panes, x, y, w, h):
        check_size(w, h)
        self.panes = panes
        self.x = x
        self.y = y
        self.w = w
        self.h = h
        self.signs = [" " * w] * h
        # Ahead of the first refreshing the board shows nothing, not even that there is no pane.
        self.seen = {}
        self.bare = ()
        self.since = 0

    def pan(self, x, y):
        """Moves the window's first cell to another one; the board follows at the next refreshing."""
        self.x = x
        self.y = y

    def refresh(self):
        """Makes the board show what the plane now shows, and tells the steps."""
        seen, bare = seen_in(self.panes, self.x, self.y, self.w, self.h)
        sheets = self.panes.sheets_kept()
        steps = self.steps_to(seen, bare)
        self.signs = followed(self.signs, steps, seen, sheets)
        self.seen = seen
        self.bare = bare
        self.since = sheets.written()
        return steps

    def board(self):
        """The rows of the board, from the top down."""
        return list(self.signs)

    def window(self):
        """The tuple (x, y, w, h) of the window."""
        return (self.x, self.y, self.w, self.h)

    def is_stale(self):
        """Whether the next refreshing would tell any step."""
        seen, bare = seen_in(self.panes, self.x, self.y, self.w, self.h)
        return bool(self.steps_to(seen, bare))

    def steps_to(self, seen, bare):
        """The steps by which the board comes to show what is seen."""
        met = self.met_in(seen)
        shifts = {}
        paints = {PLANE: without(bare, self.bare)}
        for pane in seen:
            region, sheet, x, y = seen[pane]
            old = self.seen.get(pane, ((), sheet, x, y))
            standing, by = standing_of(old, seen[pane], met[sheet])
            # What stands at its own place is in no step.
            if by != (0, 0):
                shifts[by] = either(shifts.get(by, ()), standing)
            paints[pane] = without(region, standing)
        steps = [("shift", by[0], by[1], shifts[by]) for by in sorted(shifts) if shifts[by]]
        return steps + [("paint", pane, paints[pane]) for pane in sorted(paints) if paints[pane]]

    def met_in(self, seen):
        """For each sheet that is seen the region of its cells that were met since the last refreshing."""
        sheets = self.panes.sheets_kept()
        numbers = sorted({sheet for region, sheet, x, y in seen.values()})
        return {sheet: sheets.met(sheet, self.since) for sheet in numbers}


def standing_of(old, new, met):
    """Of a pane's cells on the board those that it had there, not met since, and by how much they were moved."""
    region, sheet, x, y = new
    old_region, old_sheet, old_x, old_y = old
    if sheet != old_sheet:
        return ((), (0, 0))
    dx = old_x - x
    dy = old_y - y
    return (without(both(region, moved(old_region, dx, dy)), moved(met, -x, -y)), (dx, dy))


def followed(signs, steps, seen, sheets):
    """The rows of a board behind the steps, all shifts at once and then the paints."""
    board = [list(row) for row in signs]
    for step in steps:
        if step[0] == "shift":
            shift_signs(board, signs, step[1], step[2], step[3])
        elif step[1] == PLANE:
            draw_points(board, step[2])
        else:
            region, sheet, x, y = seen[step[1]]
            draw_signs(board, step[2], sheets, sheet, x, y)
    return ["".join(row) for row in board]


def shift_signs(board, signs, dx, dy, region):
    """Puts at the region's cells of the board the signs that stood dx to the left and dy above."""
    for x, y, w, h in boxes_of(region):
        for row in range(y, y + h):
            board[row][x:x + w] = list(signs[row - dy][x - dx:x - dx + w])


def draw_points(board, region):
    """Puts a point at each of the region's cells of the board."""
    for x, y, w, h in boxes_of(region):
        for row in range(y, y + h):
            board[row][x:x + w] = ["."] * w
