"""The client's side of one push."""

from layerwharf.addresses import address_of
from layerwharf.images import bundle_text, image_text

PART = 4

# The requests to which the reply may be that the claim has lapsed.
_UNDER_A_CLAIM = ("has", "start", "finish", "put", "name")


class Pusher:
    """One push: one request at a time, until a reply that fits it leads to the next one."""

    def __init__(self, layers, name, *, platform=None, number=0):
        self.layers = list(layers)
        self.name = name
        self.platform = platform
        self.number = number
        self.done = False
        self._addresses = [address_of("layer", text) for text in layers]
        # The layer that is pushed at present, by its index.
        self._index = 0
        self._claim = None
        self._upload = None
        self._request = ("open",)

    def request(self):
        """Return the current request, or None when the push has ended."""
        return self._request

    def take(self, reply):
        """Take a reply; return whether it led to a step or the end."""
        if self.done:
            return False
        word = self._request[0]
        if word in _UNDER_A_CLAIM and reply == ("lapsed", self._claim):
            return self._ask(("open",))
        match word:
            case "open":
                return self._take_open(reply)
            case "has":
                return self._take_has(reply)
            case "start":
                return self._take_start(reply)
            case "part":
                return self._take_part(reply)
            case "finish":
                return self._take_finish(reply)
            case "put":
                return self._take_put(reply)
            case "name":
                return self._take_name(reply)
            case _:
                return self._take_close(reply)

    def image(self):
        """Return the text of the image."""
        return image_text(self._addresses)

    def bundle(self):
        """Return the text of the bundle, or None if there is no platform."""
        if self.platform is None:
            return None
        return bundle_text([(self.platform, address_of("image", self.image()))])

    def address(self):
        """Return the address to which the name is to lead: that of the bundle or of the image."""
        if self.platform is None:
            return address_of("image", self.image())
        return address_of("bundle", self.bundle())

    def _ask(self, request):
        self._request = request
        self.number += 1
        return True

    def _ask_layer(self, index):
        """Ask for a layer, or put the image if there is none with this index."""
        if index == len(self.layers):
            return self._ask(("put", self._claim, "image", self.image()))
        self._index = index
        return self._ask(("has", self._claim, self._addresses[index]))

    def _ask_part(self, at):
        """Send the part of the layer from a place on, or finish the upload if there is none."""
        layer = self.layers[self._index]
        if at >= len(layer):
            return self._ask(("finish", self._upload, self._claim, "layer", self._addresses[self._index]))
        return self._ask(("part", self._upload, at, layer[at:at + PART]))

    def _take_open(self, reply):
        if reply[0] != "claim":
            return False
        self._claim = reply[1]
        return self._ask_layer(0)

    def _take_has(self, reply):
        address = self._addresses[self._index]
        if reply == ("kept", address):
            return self._ask_layer(self._index + 1)
        if reply == ("lacks", address):
            return self._ask(("start", self._claim))
        return False

    def _take_start(self, reply):
        if reply[0] != "upload":
            return False
        self._upload = reply[1]
        return self._ask_part(0)

    def _take_part(self, reply):
        if reply[:2] == ("have", self._upload):
            return self._ask_part(reply[2])
        if reply == ("gone", self._upload):
            return self._ask_layer(self._index)
        return False

    def _take_finish(self, reply):
        address = self._addresses[self._index]
        if reply == ("kept", address):
            return self._ask_layer(self._index + 1)
        if reply == ("wrong", address):
            return self._ask(("start", self._claim))
        if reply == ("gone", self._upload):
            return self._ask_layer(self._index)
        return False

    def _take_put(self, reply):
        kind, text = self._request[2:]
        if reply == ("kept", address_of(kind, text)):
            return self._ask_behind(kind)
        # A letter that was spoilt on its way may have put another image or bundle.
        if reply[0] in ("kept", "malformed"):
            return self._ask(self._request)
        if reply[0] == "lacks":
            return self._ask_layer(0)
        return False

    def _ask_behind(self, kind):
        """Ask for what comes behind an image or a bundle that was put."""
        if kind == "image" and self.platform is not None:
            return self._ask(("put", self._claim, "bundle", self.bundle()))
        return self._ask(("name", self._claim, self.name, self.address()))

    def _take_name(self, reply):
        if reply == ("named", self.name, self.address()):
            return self._ask(("close", self._claim))
        if reply == ("lacks", self.address()):
            return self._ask_layer(0)
        return False

    def _take_close(self, reply):
        if reply != ("closed", self._claim):
            return False
        self._request = None
        self.done = True
        return True
