"""The client's side of one pull."""

from layerwharf.addresses import address_of
from layerwharf.errors import Malformed
from layerwharf.images import read_bundle, read_image

PIECE = 4


class Puller:
    """One pull: it looks for its name, and fetches what is below, one piece at a time."""

    def __init__(self, name, *, platform=None, number=0):
        self.name = name
        self.platform = platform
        self.number = number
        self.done = False
        self.root = None
        self._request = ("look", name)
        self._kept = {}
        # What has come of the blob that is being fetched, and what its first piece told of it.
        self._text = ""
        self._kind = None
        self._length = None
        # The texts of the layers, if the pull has ended with a result.
        self._layers = None

    def request(self):
        """Return the current request, or None when the pull has ended."""
        return self._request

    def take(self, reply):
        """Take a reply; return whether it led to a step or the end."""
        if self.done:
            return False
        if self._request[0] == "look":
            return self._take_look(reply)
        return self._take_get(reply)

    def kept(self):
        """Return a dict from the addresses of the blobs that were kept to their pairs (kind, text)."""
        return dict(self._kept)

    def result(self):
        """Return the pair (root, texts of the layers), or None if there is no result."""
        if self._layers is None:
            return None
        return (self.root, list(self._layers))

    def _ask(self, request):
        self._request = request
        self.number += 1
        return True

    def _fetch(self, address):
        return self._ask(("get", address, 0, PIECE))

    def _end(self):
        self._request = None
        self.done = True
        return True

    def _take_look(self, reply):
        if reply == ("nothing", self.name):
            self.root = None
            return self._end()
        if reply[:2] == ("leads", self.name):
            self.root = reply[2]
            return self._go_on()
        return False

    def _take_get(self, reply):
        address, at = self._request[1:3]
        if reply == ("lacks", address):
            return self._ask(("look", self.name))
        match reply:
            case ("piece", told, kind, place, text, length) if told == address and place == at:
                return self._take_piece(kind, text, length)
        return False

    def _take_piece(self, kind, text, length):
        address, at = self._request[1:3]
        if at == 0:
            self._kind, self._length, self._text = kind, length, ""
        end = at + len(text)
        # Nothing tells which of the pieces was spoilt, so that all of them are asked for again.
        if (kind, length) != (self._kind, self._length) or end > length or (text == "" and at < length):
            return self._fetch(address)
        self._text += text
        if end < length:
            return self._ask(("get", address, end, PIECE))
        if address_of(kind, self._text) != address:
            return self._fetch(address)
        self._kept[address] = (kind, self._text)
        return self._go_on()

    def _go_on(self):
        """Fetch the first blob that is not kept, or end the pull."""
        if self.root not in self._kept:
            return self._fetch(self.root)
        image = self._image()
        if image is None:
            return self._end()
        if image not in self._kept:
            return self._fetch(image)
        layers = self._below_image(image)
        if layers is None:
            return self._end()
        for layer in layers:
            if layer not in self._kept:
                return self._fetch(layer)
        blobs = [self._kept[layer] for layer in layers]
        if all(kind == "layer" for kind, _ in blobs):
            self._layers = [text for _, text in blobs]
        return self._end()

    def _image(self):
        """Return the address of the image below the root, or None if the root has none for the platform."""
        kind, text = self._kept[self.root]
        if kind != "bundle":
            return self.root
        try:
            entries = read_bundle(text)
        except Malformed:
            return None
        return dict(entries).get(self.platform)

    def _below_image(self, image):
        """Return the addresses of the layers of an image, or None if it is not the text of an image."""
        kind, text = self._kept[image]
        if kind != "image":
            return None
        try:
            return read_image(text)
        except Malformed:
            return None
