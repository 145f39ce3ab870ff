"""A great many replies, right and wrong ones, that a client may be handed."""

from layerwharf.addresses import KINDS


def all_replies(*, claims, uploads, addresses, names):
    """Each kind of reply with each choice of what it may tell."""
    replies = [("malformed",)]
    replies += [(word, claim) for word in ("claim", "closed", "lapsed") for claim in claims]
    replies += [(word, upload) for word in ("upload", "gone") for upload in uploads]
    replies += [("have", upload, length) for upload in uploads for length in range(12)]
    replies += [(word, address) for word in ("kept", "lacks", "wrong") for address in addresses]
    replies += [(word, name, address) for word in ("named", "leads") for name in names for address in addresses]
    replies += [(word, name) for word in ("nothing", "dropped") for name in names]
    replies += [
        ("piece", address, kind, at, text, length) for address in addresses for kind in KINDS
        for at in (0, 4) for text in ("", "abcd") for length in (0, 4, 8)
    ]
    return replies
