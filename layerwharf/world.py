"""The world: a registry, a wire and clients, and what happens to them from moment to moment."""

from layerwharf.errors import Misused
from layerwharf.letters import Wire
from layerwharf.registry import REQUESTS, Registry


class World:
    """It goes from moment to moment by events, and remembers where the names led at each moment."""

    def __init__(self):
        self.registry = Registry()
        self.wire = Wire()
        self.clients = []
        self.begins = []
        self.ends = []
        self.moment = 0
        self.trail = [{}]

    def add_client(self, client):
        """Let a client begin at this moment; return its index."""
        self.clients.append(client)
        self.begins.append(self.moment)
        self.ends.append(None)
        return len(self.clients) - 1

    def do(self, event):
        """Do an event, which leads to the next moment, or raise Misused."""
        match event[0]:
            case "send":
                self._send(event[1])
            case "deliver" | "double" | "lose" | "spoil":
                self._do_to_letter(event)
            case "fall":
                self.registry.fall()
            case "collect":
                self.registry.collect()
            case "lapse":
                self.registry.lapse(event[1])
            case "drop":
                self.registry.drop_name(event[1])
            case _:
                raise Misused(event[0])
        self._go_to_next_moment()

    def _send(self, k):
        if not self.clients:
            return
        index = k % len(self.clients)
        client = self.clients[index]
        if not client.done:
            self.wire.send((index, client.number, client.request()))

    def _do_to_letter(self, event):
        if not self.wire.letters:
            return
        index = event[1] % len(self.wire.letters)
        match event[0]:
            case "deliver":
                self._deliver(index)
            case "double":
                self.wire.double(index)
            case "lose":
                self.wire.lose(index)
            case _:
                self.wire.spoil(index, event[2], event[3])

    def _deliver(self, index):
        client, number, body = self.wire.deliver(index)
        if body[0] in REQUESTS:
            self.wire.send((client, number, self.registry.answer(body)))
        elif client < len(self.clients) and number == self.clients[client].number:
            self.clients[client].take(body)

    def _go_to_next_moment(self):
        self.moment += 1
        self.trail.append(dict(self.registry.names))
        for index, client in enumerate(self.clients):
            if client.done and self.ends[index] is None:
                self.ends[index] = self.moment
