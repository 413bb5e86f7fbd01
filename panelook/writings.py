"""Panes with their sheets written as a text, and read back from one.

The facts of a pane are the tuple (parent, sheet, x, y, w, h, sx, sy, hidden), as Panes tells it.
"""

from panelook.errors import NoSheet, NoSize, NoText
from panelook.panes import PLANE, Panes
from panelook.sheets import Sheets
from panelook.sizes import check_size

# The words of the rows, a # for each number.
NEXT_ROW = "next # #"
SHEET_ROW = "sheet # # #"
PANE_ROW = "pane # in # sheet # at # # size # # from # #"

FIGURES = "0123456789"
MOST_FIGURES = 60
# The least number of more than the sixty figures that are written at once.
PART = 10 ** 60


class Rows:
    """The rows of a text, taken one after the other."""

    def __init__(self, text):
        rows = text.split("\n")
        if rows.pop() != "":
            raise NoText("the last row is not ended by a line feed")
        self.rows = rows
        self.taken = 0

    def begins(self, words):
        """Whether there is a next row that begins with these words."""
        return not self.is_at_end() and self.rows[self.taken].startswith(words)

    def take(self):
        """The next row."""
        if self.is_at_end():
            raise NoText("a row is missing")
        self.taken += 1
        return self.rows[self.taken - 1]

    def is_at_end(self):
        """Whether all rows were taken."""
        return self.taken == len(self.rows)


def show_panes(panes):
    """The text of the panes and their sheets."""
    sheets = panes.sheets_kept()
    numbers = panes.all_panes()
    rows = [filled(NEXT_ROW, [sheets.how_many(), panes.following()])]
    for sheet in range(sheets.how_many()):
        w, h = sheets.size_of(sheet)
        rows.append(filled(SHEET_ROW, [sheet, w, h]))
        rows.extend(["|" + row for row in sheets.rows_of(sheet)])
    rows.extend([pane_row(panes, pane) for pane in numbers])
    for parent in [PLANE] + numbers:
        order = panes.inside(parent)
        if order:
            rows.append(" ".join(["order"] + [figures_of(number) for number in [parent] + order]))
    return "".join([row + "\n" for row in rows])


def pane_row(panes, pane):
    """The row of one pane, without its line feed."""
    *numbers, hidden = panes.told(pane)
    return filled(PANE_ROW, [pane] + numbers) + (" hidden" if hidden else " shown")


def filled(form, numbers):
    """The form with the numbers written in their order, each for a #."""
    row = form
    for number in numbers:
        row = row.replace("#", figures_of(number), 1)
    return row


def figures_of(number):
    """The number written by figures."""
    # Put together from parts, as Python refuses to write out very great numbers at once.
    rest = abs(number)
    parts = []
    while rest >= PART:
        rest, part = divmod(rest, PART)
        parts.append(str(part).zfill(60))
    parts.append(str(rest))
    return ("-" if number < 0 else "") + "".join(parts[::-1])


def read_panes(text):
    """New panes over new sheets, as the text tells them."""
    try:
        return panes_in(Rows(text))
    except (NoSheet, NoSize):
        raise NoText("a sheet is not there, or a size is beyond its limits") from None


def panes_in(rows):
    """New panes over new sheets, as the rows tell them."""
    many, upcoming = numbers_in(rows.take(), NEXT_ROW)
    sheets = sheets_in(rows)
    facts = facts_in(rows)
    orders = orders_in(rows)
    if not rows.is_at_end():
        raise NoText("a row stands where it should not")
    if sheets.how_many() != many:
        raise NoText("there are not so many sheets")
    if max([PLANE] + list(facts)) >= upcoming:
        raise NoText("the number of the next pane is not greater than each pane's")
    panes = Panes(sheets)
    open_all(panes, facts, orders)
    panes.go_on_from(upcoming)
    return panes


def sheets_in(rows):
    """The sheets that the next rows tell."""
    sheets = Sheets()
    while rows.begins("sheet "):
        number, w, h = numbers_in(rows.take(), SHEET_ROW)
        if number != sheets.how_many():
            raise NoText("the numbers of the sheets do not rise one by one")
        check_size(w, h)
        sheets.add_sheet([signs_in(rows.take(), w) for row in range(h)])
    return sheets


def signs_in(row, w):
    """The w signs behind the stroke of a sheet's row."""
    signs = row[1:]
    if not row.startswith("|") or len(signs) != w or not all(is_sign(one) for one in signs):
        raise NoText("this is no stroke with as many signs behind it as the sheet is wide")
    return signs


def is_sign(one):
    """Whether the text of one character is a sign."""
    # 37 is the sign of the hundredth, which is none.
    return 32 <= ord(one) <= 126 and ord(one) != 37


def facts_in(rows):
    """The facts of the panes that the next rows tell, a dict by the panes' numbers."""
    facts = {}
    last = PLANE
    while rows.begins("pane "):
        words, blank, mark = rows.take().rpartition(" ")
        pane, *numbers = numbers_in(words, PANE_ROW)
        if mark not in ("shown", "hidden") or pane <= last:
            raise NoText("a pane is neither shown nor hidden, or the numbers of the panes do not rise")
        facts[pane] = (*numbers, mark == "hidden")
        last = pane
    return facts


def orders_in(rows):
    """The orders that the next rows tell, a dict of lists by the parents' numbers."""
    orders = {}
    last = -1
    while rows.begins("order "):
        parent, *order = [number_of(word) for word in rows.take().split(" ")[1:]]
        if not order or parent <= last:
            raise NoText("an order tells no pane, or the numbers of the parents do not rise")
        orders[parent] = order
        last = parent
    return orders


def numbers_in(row, form):
    """The numbers of a row, whose other words must be those of the form."""
    words = row.split(" ")
    due = form.split(" ")
    if len(words) != len(due):
        raise NoText("a row has a word more or less")
    numbers = []
    for word, like in zip(words, due):
        if like == "#":
            numbers.append(number_of(word))
        elif word != like:
            raise NoText("a row has another word")
    return numbers


def number_of(word):
    """The number that is written so."""
    figures = word[1:] if word.startswith("-") else word
    # Looked at ahead of int, which takes other forms, too, and refuses very long ones in its own way.
    if not 1 <= len(figures) <= MOST_FIGURES or not all(figure in FIGURES for figure in figures):
        raise NoText("this is no number of at most sixty figures")
    number = int(word)
    if str(number) != word:
        raise NoText("a number begins with a 0 of several figures, or is a 0 with a sign")
    return number


def open_all(panes, facts, orders):
    """Opens the panes in their orders, each behind its parent, and takes what is done away from the two dicts."""
    waiting = [PLANE]
    while waiting:
        parent = waiting.pop()
        order = orders.pop(parent, [])
        for pane in order:
            if pane not in facts or facts[pane][0] != parent:
                raise NoText("an order tells a pane twice, or one that does not lie there")
            open_one(panes, pane, facts.pop(pane))
        waiting.extend(order)
    # From the plane no way leads to panes that lie round in one another, nor to those that their order leaves out.
    if facts or orders:
        raise NoText("a pane is in no order or not in the plane, or an order is no parent's")


def open_one(panes, pane, facts):
    """Opens the pane under its number, as its facts tell it."""
    parent, sheet, x, y, w, h, sx, sy, hidden = facts
    panes.go_on_from(pane)
    panes.open_pane(parent, sheet, x, y, w, h)
    panes.scroll(pane, sx, sy)
    if hidden:
        panes.hide(pane)
