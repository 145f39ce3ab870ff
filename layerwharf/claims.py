"""The claims of pushes, and what is pinned under them."""


class Claims:
    """Open claims by their numbers, each with the addresses that are pinned under it."""

    def __init__(self):
        self._last = 0
        self._pins = {}

    def begin(self):
        """Open a claim and return its number."""
        self._last += 1
        self._pins[self._last] = {}
        return self._last

    def is_open(self, claim):
        """Tell whether a claim is open."""
        return claim in self._pins

    def pin(self, claim, address):
        """Pin an address under an open claim."""
        self._pins[claim][address] = True

    def end(self, claim):
        """End a claim, if it is open; what is pinned under it alone is pinned no more."""
        self._pins.pop(claim, None)

    def numbers(self):
        """Return the list of the open claims in ascending order."""
        return sorted(self._pins)

    def pinned(self):
        """Return the list of the pinned addresses in ascending order, each once."""
        return sorted({address for pins in self._pins.values() for address in pins})
