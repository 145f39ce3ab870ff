"""Judging: whether a world is as it should be, and what its clients may say of it."""

from layerwharf.pusher import Pusher
from layerwharf.store import BELOW


def names_are_whole(world):
    """Tell whether each name leads to a whole image or bundle."""
    registry = world.registry
    return all(_is_nameable(registry.store, address) for address in registry.names.values())


def shown_moment(world, index):
    """Return the moment that a client shows, or None if it has not ended or shows none."""
    end = world.ends[index]
    if end is None:
        return None
    client = world.clients[index]
    sought = _sought(client)
    for moment in range(world.begins[index], end + 1):
        # Where a name leads nowhere, there is None, too.
        if world.trail[moment].get(client.name) == sought:
            return moment
    return None


def reachable(world):
    """Return the list of the addresses that the names need, in ascending order, each once."""
    registry = world.registry
    return sorted({address for root in registry.names.values() for address in registry.store.closure(root)})


def _is_nameable(store, address):
    return any(store.is_whole_of(kind, address) for kind in BELOW)


def _sought(client):
    return client.address() if isinstance(client, Pusher) else client.root
