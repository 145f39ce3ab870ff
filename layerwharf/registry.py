"""The registry, which answers the requests of clients and has names that lead to whole blobs."""

from layerwharf.addresses import address_of
from layerwharf.claims import Claims
from layerwharf.collector import Collector
from layerwharf.errors import Malformed
from layerwharf.images import references
from layerwharf.store import BELOW, Store
from layerwharf.uploads import Uploads

# The words of all requests; no reply begins with one of them.
REQUESTS = ("open", "has", "start", "part", "finish", "put", "name", "close", "look", "get", "drop")

# For the requests that need an open claim: the place at which they have it.
_CLAIM_AT = {"has": 1, "start": 1, "finish": 2, "put": 1, "name": 1}


class Registry:
    """Blobs, names and claims, which stand when it falls; uploads and a collector, which lose what they had."""

    def __init__(self):
        self.store = Store()
        self.names = {}
        self.claims = Claims()
        self.uploads = Uploads()
        self.collector = Collector(self.store)

    def answer(self, request):
        """Answer a request and return the reply."""
        if request[0] in _CLAIM_AT:
            return self._answer_under(request[_CLAIM_AT[request[0]]], request)
        match request:
            case ("open",):
                return ("claim", self.claims.begin())
            case ("part", upload, at, text):
                length = self.uploads.add_part(upload, at, text)
                return ("gone", upload) if length is None else ("have", upload, length)
            case ("close", claim):
                self.claims.end(claim)
                return ("closed", claim)
            case ("look", name):
                return ("leads", name, self.names[name]) if name in self.names else ("nothing", name)
            case ("get", address, at, count):
                return self._piece(address, at, count)
            case ("drop", name):
                self.drop_name(name)
                return ("dropped", name)

    def drop_name(self, name):
        """Remove a name, if it is there."""
        self.names.pop(name, None)

    def lapse(self, claim):
        """End a claim, if it is open."""
        self.claims.end(claim)

    def fall(self):
        """Fall and come up again: the uploads and the round of the collector are lost."""
        self.uploads.forget()
        self.collector.stop()

    def roots(self):
        """Return the list of the addresses that names lead to or claims pin, in ascending order, each once."""
        return sorted(set(list(self.names.values()) + self.claims.pinned()))

    def collect(self):
        """Do one step of the collector and return its word."""
        return self.collector.step(self.roots())

    def _answer_under(self, claim, request):
        if not self.claims.is_open(claim):
            return ("lapsed", claim)
        match request:
            case ("has", _, address):
                return self._keep(claim, address) if self.store.is_whole(address) else ("lacks", address)
            case ("start", _):
                return ("upload", self.uploads.begin())
            case ("finish", upload, _, _, address):
                return self._finish(upload, claim, address)
            case ("put", _, kind, text):
                return self._put(claim, kind, text)
            case ("name", _, name, address):
                return self._name(claim, name, address)

    def _finish(self, upload, claim, address):
        text = self.uploads.finish(upload)
        if text is None:
            # The upload may have become this blob, when the reply to its first "finish" was lost.
            return self._keep(claim, address) if self.store.is_whole(address) else ("gone", upload)
        if address_of("layer", text) != address:
            return ("wrong", address)
        return self._keep(claim, self.store.keep("layer", text))

    def _put(self, claim, kind, text):
        try:
            below = references(kind, text)
        except Malformed:
            return ("malformed",)
        for reference in below:
            if not self.store.is_whole_of(BELOW[kind], reference):
                return ("lacks", reference)
        return self._keep(claim, self.store.keep(kind, text))

    def _name(self, claim, name, address):
        if not any(self.store.is_whole_of(kind, address) for kind in BELOW):
            return ("lacks", address)
        self._pin(claim, address)
        self.names[name] = address
        return ("named", name, address)

    def _piece(self, address, at, count):
        blob = self.store.blob(address)
        if blob is None:
            return ("lacks", address)
        kind, text = blob
        return ("piece", address, kind, at, text[at:at + count], len(text))

    def _keep(self, claim, address):
        self._pin(claim, address)
        return ("kept", address)

    def _pin(self, claim, address):
        self.claims.pin(claim, address)
        # The round that is under way took its roots before this one was there.
        self.collector.shade(address)
