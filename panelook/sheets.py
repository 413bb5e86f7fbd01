"""Sheets of signs, and which of their cells were met by writings and fillings."""

from panelook.errors import NoCount, NoSheet
from panelook.sets import add_band, add_span
from panelook.sizes import check_size


class Sheet:
    """One sheet: its rows of signs, and for each cell the number of the last deed that met it, 0 where none did."""

    def __init__(self, rows):
        self.w = len(rows[0])
        self.h = len(rows)
        self.rows = rows
        self.marks = [[0] * self.w for row in rows]

    def put(self, left, y, h, signs, deed):
        """Puts the signs, which stand within the width, from left on into each of h rows from y on."""
        right = left + len(signs)
        top, bottom = cut(y, h, self.h)
        for row in range(top, bottom):
            self.rows[row] = self.rows[row][:left] + signs + self.rows[row][right:]
            self.marks[row][left:right] = [deed] * len(signs)


class Sheets:
    """Sheets, numbered from 0 on as they are made, and one count of the deeds at all of them."""

    def __init__(self):
        self.made = []
        self.deeds = 0

    def make(self, w, h, sign):
        """Makes a sheet with the sign at each cell, and tells its number."""
        check_size(w, h)
        self.add_sheet([sign * w] * h)
        return len(self.made) - 1

    def write(self, sheet, x, y, text):
        """Writes the text from (x, y) to the right; signs that meet no cell are lost."""
        found = self.sheet_of(sheet)
        self.deeds += 1
        left, right = cut(x, len(text), found.w)
        found.put(left, y, 1, text[left - x:right - x], self.deeds)

    def fill(self, sheet, x, y, w, h, sign):
        """Puts the sign at each of the sheet's cells that is in the box."""
        found = self.sheet_of(sheet)
        self.deeds += 1
        left, right = cut(x, w, found.w)
        found.put(left, y, h, sign * (right - left), self.deeds)

    def size_of(self, sheet):
        """The size (w, h) of the sheet."""
        found = self.sheet_of(sheet)
        return (found.w, found.h)

    def sign_at(self, sheet, x, y):
        """The sign at the place (x, y) of the sheet, a blank beyond its cells."""
        found = self.sheet_of(sheet)
        if 0 <= x < found.w and 0 <= y < found.h:
            return found.rows[y][x]
        return " "

    def rows_of(self, sheet):
        """The rows of the sheet, from the top down."""
        return list(self.sheet_of(sheet).rows)

    def written(self):
        """How many writings and fillings there were at all sheets together."""
        return self.deeds

    def met(self, sheet, since):
        """The region of the sheet's cells that were met by deeds behind the first so many."""
        found = self.sheet_of(sheet)
        if not 0 <= since <= self.deeds:
            raise NoCount("the count is not from 0 to the one now")
        bands = []
        for y, marks in enumerate(found.marks):
            add_band(bands, y, y + 1, spans_behind(marks, since))
        return tuple(bands)

    def how_many(self):
        """How many sheets there are."""
        return len(self.made)

    def add_sheet(self, rows):
        """Adds a sheet that has these rows and that no deed has met."""
        self.made.append(Sheet(list(rows)))

    def sheet_of(self, sheet):
        """The sheet that has the number, refused where none has it."""
        if not 0 <= sheet < len(self.made):
            raise NoSheet("no sheet has this number")
        return self.made[sheet]


def cut(start, many, limit):
    """From where on and up to where the so many places from start on lie within 0 up to the limit.

    Both are within 0 and the limit, and alike where no place lies there: places may be too far off for an index.
    """
    left = min(max(start, 0), limit)
    right = max(min(start + many, limit), left)
    return (left, right)


def spans_behind(marks, since):
    """The spans of the places of a row whose marks are behind the count."""
    spans = []
    for x, mark in enumerate(marks):
        if mark > since:
            add_span(spans, x, x + 1)
    return tuple(spans)
