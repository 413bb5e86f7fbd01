"""Panes on the plane and in one another, and the deeds at them."""

from panelook.errors import NoBrother, NoPane, NoParent, NoSize

PLANE = 0


class Pane:
    """One pane: where it lies, what it shows, and its own mark whether it is hidden."""

    def __init__(self, parent, sheet, x, y, w, h):
        self.parent = parent
        self.sheet = sheet
        self.x = x
        self.y = y
        self.w = w
        self.h = h
        self.sx = 0
        self.sy = 0
        self.hidden = False


class Panes:
    """The panes over some sheets, numbered from 1 on as they are opened."""

    def __init__(self, sheets):
        self.sheets = sheets
        self.panes = {}
        # For the plane and each pane the numbers of those in it, the lowest first.
        self.orders = {PLANE: []}
        self.upcoming = 1

    def open_pane(self, parent, sheet, x, y, w, h):
        """Opens a pane over all others in the parent, and tells its number."""
        order = self.order_in(parent)
        self.check_sheet(sheet)
        check_least(w, h)
        pane = self.upcoming
        self.upcoming += 1
        self.panes[pane] = Pane(parent, sheet, x, y, w, h)
        self.orders[pane] = []
        order.append(pane)
        return pane

    def move(self, pane, x, y):
        """Moves the pane to another place in its parent."""
        found = self.pane_of(pane)
        found.x = x
        found.y = y

    def resize(self, pane, w, h):
        """Gives the pane another size."""
        found = self.pane_of(pane)
        check_least(w, h)
        found.w = w
        found.h = h

    def scroll(self, pane, sx, sy):
        """Has the pane show its sheet from another start."""
        found = self.pane_of(pane)
        found.sx = sx
        found.sy = sy

    def turn(self, pane, sheet):
        """Has the pane show another sheet, from the same start."""
        found = self.pane_of(pane)
        self.check_sheet(sheet)
        found.sheet = sheet

    def lift(self, pane):
        """Puts the pane over all others in its parent."""
        order = self.order_in(self.pane_of(pane).parent)
        order.remove(pane)
        order.append(pane)

    def sink(self, pane):
        """Puts the pane under all others in its parent."""
        order = self.order_in(self.pane_of(pane).parent)
        order.remove(pane)
        order.insert(0, pane)

    def put_over(self, pane, brother):
        """Puts the pane just over a brother."""
        parent = self.pane_of(pane).parent
        if self.pane_of(brother).parent != parent or brother == pane:
            raise NoBrother("this is not another pane in the same parent")
        order = self.order_in(parent)
        order.remove(pane)
        order.insert(order.index(brother) + 1, pane)

    def put_into(self, pane, parent):
        """Puts the pane into a parent, over all others there, at the same place told from there."""
        found = self.pane_of(pane)
        order = self.order_in(parent)
        self.check_parent(pane, parent)
        self.order_in(found.parent).remove(pane)
        order.append(pane)
        found.parent = parent

    def hide(self, pane):
        """Marks the pane itself as hidden."""
        found = self.pane_of(pane)
        found.hidden = True

    def show(self, pane):
        """Marks the pane itself as shown."""
        found = self.pane_of(pane)
        found.hidden = False

    def let_go(self, pane):
        """Lets the pane go, with all that lies in it at any depth."""
        self.order_in(self.pane_of(pane).parent).remove(pane)
        waiting = [pane]
        while waiting:
            gone = waiting.pop()
            waiting.extend(self.orders[gone])
            del self.orders[gone]
            del self.panes[gone]

    def told(self, pane):
        """The tuple (parent, sheet, x, y, w, h, sx, sy, hidden) of the pane."""
        found = self.pane_of(pane)
        return (found.parent, found.sheet, found.x, found.y, found.w, found.h, found.sx, found.sy, found.hidden)

    def inside(self, parent):
        """The panes in the parent, the lowest first."""
        return list(self.order_in(parent))

    def all_panes(self):
        """All panes, rising."""
        return sorted(self.panes)

    def following(self):
        """The number that the next pane opened gets."""
        return self.upcoming

    def sheets_kept(self):
        """The sheets that the panes were made with."""
        return self.sheets

    def go_on_from(self, number):
        """Has the next pane opened get the number, which must be no pane's."""
        self.upcoming = number

    def pane_of(self, pane):
        """The pane that has the number, refused where none has it."""
        if pane not in self.panes:
            raise NoPane("no pane has this number")
        return self.panes[pane]

    def order_in(self, parent):
        """The kept list of the panes in the parent, refused where it is neither the plane nor a pane."""
        if parent not in self.orders:
            raise NoPane("neither the plane nor a pane has this number")
        return self.orders[parent]

    def check_sheet(self, sheet):
        """Refuses a number that is no sheet's."""
        # Only the sheets themselves know, as more may have been made since: whatever asks for one is refused.
        self.sheets.size_of(sheet)

    def check_parent(self, pane, parent):
        """Refuses a parent that is the pane itself or lies within it."""
        while parent != PLANE:
            if parent == pane:
                raise NoParent("this parent is the pane itself or lies within it")
            parent = self.panes[parent].parent


def check_least(w, h):
    """Refuses a size below 1."""
    if w < 1 or h < 1:
        raise NoSize("a width and a height are at least 1 each")
