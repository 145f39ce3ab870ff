"""What several tests need: blobs by their kinds, and what can be seen of a registry."""

from layerwharf.addresses import address_of
from layerwharf.images import bundle_text, image_text


def layer_address(text):
    return address_of("layer", text)


def image_of(*texts):
    """The text of an image of the layers with these texts."""
    return image_text([layer_address(text) for text in texts])


def image_address(*texts):
    return address_of("image", image_of(*texts))


def bundle_of(**images):
    """The text of a bundle: for each platform the texts of the layers of its image."""
    return bundle_text([(platform, image_address(*texts)) for platform, texts in images.items()])


def bundle_address(**images):
    return address_of("bundle", bundle_of(**images))


def state_of(registry):
    """All that can be seen of a registry without a request, the uploads excepted."""
    store = registry.store
    return (
        {address: store.blob(address) for address in store.addresses()}, dict(registry.names),
        registry.claims.numbers(), registry.claims.pinned(),
        registry.collector.phase, dict(registry.collector.marked),
    )


def blobs_of(registry):
    """The pairs of all blobs of a registry under their addresses."""
    return {address: registry.store.blob(address) for address in registry.store.addresses()}


def upload(registry, claim, text, size=4):
    """Bring a layer into a registry by parts; return the reply to the last request."""
    number = registry.answer(("start", claim))[1]
    for at in range(0, len(text), size):
        registry.answer(("part", number, at, text[at:at + size]))
    return registry.answer(("finish", number, claim, "layer", layer_address(text)))


def is_nameable(registry, address):
    """Whether an address is that of a whole image or bundle."""
    blob = registry.store.blob(address)
    return blob is not None and blob[0] in ("image", "bundle") and registry.store.is_whole(address)
