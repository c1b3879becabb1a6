"""Plans of arrows and ties."""

from toldpushes.drawing import are_arrows, are_ties, order_of
from toldpushes.errors import InvalidArrows, InvalidTies
from toldpushes.sizes import check_size


class Plan:
    """Things with arrows, that make no rings, and ties between them; it never changes."""

    def __init__(self, size, arrows, ties):
        check_size(size)
        if not are_arrows(size, arrows):
            raise InvalidArrows(arrows)
        if not are_ties(size, ties):
            raise InvalidTies(ties)
        self._size = size
        self._arrows = sorted([(start, end) for start, end in arrows])
        self._ties = sorted([(low, high) for low, high in ties])

    @property
    def width(self):
        """The plan's size."""
        return self._size

    def arrows(self):
        """The sorted list of the arrows."""
        return list(self._arrows)

    def ties(self):
        """The sorted list of the ties."""
        return list(self._ties)

    def order(self):
        """The plan's order, a list of its things."""
        return order_of(self._size, self._arrows)

    def __eq__(self, other):
        if not isinstance(other, Plan):
            return False
        return self._size == other._size and self._arrows == other._arrows and self._ties == other._ties

    def __repr__(self):
        return f"Plan({self._size}, {self._arrows}, {self._ties})"
