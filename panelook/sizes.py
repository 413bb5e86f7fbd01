"""The sizes that a sheet and a drawing may have."""

from panelook.errors import NoSize

GREATEST = 60


def check_size(w, h):
    """Refuses a size that is not from 1 to the greatest one, each way."""
    if not (1 <= w <= GREATEST and 1 <= h <= GREATEST):
        raise NoSize("a width and a height are from 1 to 60 each")
