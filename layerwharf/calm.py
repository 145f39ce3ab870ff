"""Calm: rounds in which nothing goes wrong, and how many of them are enough."""

from layerwharf.letters import MOST_LETTERS
from layerwharf.pusher import Pusher


def calm_round(world, steps):
    """Do a calm round with so many steps of the collector."""
    _deliver_all(world)
    for index in range(len(world.clients)):
        # Else a wire that is full would lose the letters of the clients that are still to come.
        if (index + 1) % MOST_LETTERS == 0:
            _deliver_all(world)
        world.do(("send", index))
    _deliver_all(world)
    for _ in range(steps):
        world.do(("collect",))


def calm_bound(world):
    """Return a number of calm rounds within which all clients end."""
    most = 2
    for client in world.clients:
        if isinstance(client, Pusher):
            most = max(most, _push_cost(client), _pull_cost(client))
    return 2 + (4 + len(world.clients)) * most


def run_calm(world, steps):
    """Do calm rounds until all clients have ended; return how many, or None if the bound is not enough."""
    bound = calm_bound(world)
    rounds = 0
    while not all(client.done for client in world.clients):
        if rounds == bound:
            return None
        calm_round(world, steps)
        rounds += 1
    return rounds


def full_collection(world):
    """Let all claims lapse and the collector do a whole round; return the number of blobs that are left."""
    registry = world.registry
    for claim in registry.claims.numbers():
        registry.lapse(claim)
    _end_round(registry)
    registry.collect()
    _end_round(registry)
    return len(registry.store.addresses())


def _deliver_all(world):
    while world.wire.letters:
        world.do(("deliver", 0))


def _end_round(registry):
    while registry.collector.phase != "idle":
        registry.collect()


def _push_cost(pusher):
    return 7 + sum(4 + len(layer) // 4 for layer in pusher.layers)


def _pull_cost(pusher):
    texts = [*pusher.layers, pusher.image()]
    if pusher.platform is not None:
        texts.append(pusher.bundle())
    return 2 + sum(1 + len(text) // 4 for text in texts)
