"""The refusals, one class for each kind of them."""


class LookError(ValueError):
    """Any refusal."""


class NoSize(LookError):
    """A width or a height beyond its limits."""


class NoSheet(LookError):
    """A number that is no sheet's."""


class NoCount(LookError):
    """A count of writings that has not been reached, or is below 0."""


class NoPane(LookError):
    """A number that is no pane's."""


class NoBrother(LookError):
    """A pane that is not another one in the same parent."""


class NoParent(LookError):
    """A parent that is the pane itself or lies within it."""


class NoText(LookError):
    """A text that no panes are written as."""
