"""Pointers: the chains of panes at their places, and what has changed in these."""

from panelook.drawing import shown_at
from panelook.errors import NoPane
from panelook.panes import PLANE


class Pointer:
    """A pointer at a cell of the plane or at no place, which may be bound to a pane."""

    def __init__(self, panes):
        self.panes = panes
        self.place = None
        # The plane stands for no pane.
        self.bound = PLANE
        self.last_told = []

    def go(self, x, y):
        """Puts the pointer at the plane's cell."""
        self.place = (x, y)

    def leave_plane(self):
        """Puts the pointer at no place."""
        self.place = None

    def bind(self, pane):
        """Binds the pointer to the pane."""
        # Whatever asks for a pane is refused where there is none.
        self.panes.told(pane)
        self.bound = pane

    def loose(self):
        """Frees the pointer from the pane that it is bound to, if any."""
        self.bound = PLANE

    def chain(self):
        """The pane that the pointer is bound to, or else at, behind those in which it lies, the outermost first."""
        pane = self.inmost()
        found = []
        while pane != PLANE:
            found.append(pane)
            pane = self.panes.told(pane)[0]
        return found[::-1]

    def news(self):
        """The tuples ("leave", pane) and ("enter", pane) of what has changed in the chain since this was last asked."""
        old = self.last_told
        self.last_told = self.chain()
        left = lacking(old, self.last_told)
        entered = lacking(self.last_told, old)
        return [("leave", pane) for pane in reversed(left)] + [("enter", pane) for pane in entered]

    def inmost(self):
        """The pane whose chain the pointer's is, the plane where it is none's."""
        if self.is_bound():
            return self.bound
        if self.place is None:
            return PLANE
        x, y = self.place
        shown = shown_at(self.panes, x, y)
        return PLANE if shown is None else shown[0]

    def is_bound(self):
        """Whether the pointer is bound to a pane that was not let go."""
        try:
            self.panes.told(self.bound)
        except NoPane:
            return False
        return True


def lacking(ones, others):
    """Those of the first numbers that are not among the others."""
    known = {number: True for number in others}
    return [number for number in ones if number not in known]
