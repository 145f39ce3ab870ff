"""The store: blobs under their addresses, and what they need below them."""

from layerwharf.addresses import address_of
from layerwharf.images import references

BELOW = {"image": "layer", "bundle": "image"}


class Store:
    """Pairs (kind, text) under their addresses; the texts of images and bundles are well formed."""

    def __init__(self):
        self._blobs = {}

    def keep(self, kind, text):
        """Store a blob, in place of one with the same address, and return its address."""
        address = address_of(kind, text)
        self._blobs[address] = (kind, text)
        return address

    def blob(self, address):
        """Return the pair (kind, text) at an address, or None."""
        return self._blobs.get(address)

    def remove_blob(self, address):
        """Remove a blob that is there."""
        self._blobs.pop(address, None)

    def addresses(self):
        """Return the list of all addresses in ascending order."""
        return sorted(self._blobs)

    def below(self, address):
        """Return the references of a blob that is there, in order."""
        kind, text = self._blobs[address]
        return references(kind, text)

    def is_whole(self, address):
        """Tell whether a blob is there with everything below it, each of the right kind."""
        if address not in self._blobs:
            return False
        kind = self._blobs[address][0]
        # A layer has no references, so that BELOW is never asked for what is below a layer.
        return all(self.is_whole_of(BELOW[kind], reference) for reference in self.below(address))

    def is_whole_of(self, kind, address):
        """Tell whether a blob of this kind is there and whole."""
        return address in self._blobs and self._blobs[address][0] == kind and self.is_whole(address)

    def closure(self, address):
        """Return the closure of a whole blob: each address once, at its first place."""
        found = {}
        self._gather(address, found)
        return list(found)

    def _gather(self, address, found):
        if address in found:
            return
        found[address] = True
        for reference in self.below(address):
            self._gather(reference, found)
