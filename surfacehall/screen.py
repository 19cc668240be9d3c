"""The screen of a house, as it was painted last."""

from surfacehall.errors import BadSize
from surfacehall.forms import is_within


class Screen:
    """Rows of marks, and for each cell the surface whose mark it is, or None."""

    def __init__(self, wide, high):
        if not is_within(wide, 1, 12) or not is_within(high, 1, 8):
            raise BadSize("a screen is 1 to 12 cells wide and 1 to 8 high")
        self.wide = wide
        self.high = high
        self.marks = [[0] * wide for _ in range(high)]
        self.sources = [[None] * wide for _ in range(high)]

    def repaint(self, laid):
        """Paint (surface, x, y), the lowest first, and tell (x, y, mark) of cells that changed."""
        before = self.marks
        self.marks = [[0] * self.wide for _ in range(self.high)]
        self.sources = [[None] * self.wide for _ in range(self.high)]
        for surface, left, top in laid:
            self.stamp(surface, left, top)
        return self.changes(before)

    def stamp(self, surface, left, top):
        """Paint what is shown of a surface over what is painted, its first cell at (left, top)."""
        look = surface.shown
        for y in range(max(0, top), min(self.high, top + look.high)):
            for x in range(max(0, left), min(self.wide, left + look.wide)):
                mark = look.mark_at(x - left, y - top)
                if mark != 0:
                    self.marks[y][x] = mark
                    self.sources[y][x] = surface

    def changes(self, before):
        """Tell (x, y, mark) of all cells that had another mark before, by y, then x."""
        return [
            (x, y, self.marks[y][x])
            for y in range(self.high)
            for x in range(self.wide)
            if self.marks[y][x] != before[y][x]
        ]

    def seen_at(self, x, y):
        """Tell the surface whose mark a cell has, if it is there still, else None."""
        surface = self.sources[y][x]
        if surface is None or not surface.there:
            return None
        return surface
