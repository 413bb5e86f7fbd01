"""What several tests share: sets of cells held cell by cell, apart from the program, scenes and deeds of every kind."""

import unittest

from panelook.errors import LookError
from panelook.panes import Panes
from panelook.sheets import Sheets

DEEP = 1500  # beyond what Python's own calls may be nested
FAR = 10 ** 60 - 1  # the greatest number of sixty figures
# A number that Python does not write out; cells_in tells such ones, asked of a box as wide as what it told, and so on.
HUGE = FAR ** 256


def cells_of(region):
    """The set of the cells of a small region, as [5] tells them."""
    return {(x, y) for y0, y1, spans in region for x0, x1 in spans
            for y in range(y0, y1) for x in range(x0, x1)}


def cells_of_box(box):
    """The set of the cells of a small box, as [6] tells them."""
    left, top, w, h = box
    return {(x, y) for x in range(left, left + w) for y in range(top, top + h)}


def spans_of_row(cells, y):
    """The spans of one row, found one cell after the other."""
    spans = []
    for x in sorted(x for x, row in cells if row == y):
        if spans and spans[-1][1] == x:
            spans[-1][1] = x + 1
        else:
            spans.append([x, x + 1])
    return tuple((x0, x1) for x0, x1 in spans)


def region_by_rows(cells):
    """The one region of a set of cells, found one row after the other."""
    bands = []
    for y in sorted({y for x, y in cells}):
        spans = spans_of_row(cells, y)
        if bands and bands[-1][1] == y and bands[-1][2] == spans:
            bands[-1][1] = y + 1
        else:
            bands.append([y, y + 1, spans])
    return tuple((y0, y1, spans) for y0, y1, spans in bands)


def is_plain(thing):
    """Whether the thing is made of plain tuples and of ints that are no truths alone."""
    if type(thing) is tuple:
        return all(is_plain(part) for part in thing)
    return type(thing) is int


def all_sets(w, h):
    """Every set of cells of a box of w by h cells."""
    places = [(x, y) for y in range(h) for x in range(w)]
    return [{place for at, place in enumerate(places) if number >> at & 1}
            for number in range(2 ** len(places))]


class SceneTest(unittest.TestCase):
    """Tests that begin with two sheets and no pane."""

    def setUp(self):
        self.sheets = Sheets()
        self.sheets.make(8, 4, "a")
        self.sheets.write(0, 0, 0, "01234567")
        self.sheets.write(0, 0, 1, "abcdefgh")
        self.sheets.make(3, 3, "b")
        self.panes = Panes(self.sheets)

    def pane(self, x, y, w, h, parent=0, sheet=0):
        return self.panes.open_pane(parent, sheet, x, y, w, h)


def state(panes):
    """All that is told of the panes, and what has been written on their sheets."""
    numbers = panes.all_panes()
    sheets = panes.sheets_kept()
    return (panes.following(), numbers, [panes.told(pane) for pane in numbers],
            [panes.inside(parent) for parent in [0] + numbers], sheets.written(),
            [sheets.rows_of(sheet) for sheet in range(sheets.how_many())])


DEEDS = {"open_pane": "parent sheet x y w h", "move": "pane x y", "resize": "pane w h", "scroll": "pane x y",
         "turn": "pane sheet", "lift": "pane", "sink": "pane", "put_over": "pane brother", "put_into": "pane parent",
         "hide": "pane", "show": "pane", "let_go": "pane", "make": "w h sign", "write": "sheet x y text",
         "fill": "sheet x y w h sign"}
OFTEN = list(DEEDS) * 2 + ["open_pane"] * 12 + ["move", "scroll", "show"] * 8 + ["put_into", "fill", "write"] * 2


def some_deed(chance, panes):
    """Does a deed of some kind at the panes or at their sheets; a few are refused."""
    name = chance.choice(OFTEN)
    if len(panes.all_panes()) > 14:
        name = "let_go"
    args = some_args(chance, panes, DEEDS[name].split())
    owner = panes if hasattr(panes, name) else panes.sheets_kept()
    try:
        getattr(owner, name)(*args)
    except LookError:
        pass


def some_args(chance, panes, kinds):
    """Arguments of the told kinds, nearly all of them right."""
    numbers = panes.all_panes() * 3 + [0, panes.following()]
    sheets = list(range(panes.sheets_kept().how_many()))
    some = {"pane": numbers, "parent": [0] * len(numbers) + numbers, "brother": numbers, "sheet": sheets * 9 + [-1],
            "x": range(-3, 9), "y": range(-3, 7), "w": range(0, 13), "h": range(0, 9), "sign": "abc*| ",
            "text": ["", "x", "yz", "hello", "aaaaaaaaaaaa", " | "]}
    args = [chance.choice(some[kind]) for kind in kinds]
    if "brother" in kinds and args[0] in panes.all_panes():
        args[1] = chance.choice(panes.inside(panes.told(args[0])[0]))
    return args
