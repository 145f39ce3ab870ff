"""The addresses of blobs, which follow from their kinds and texts alone."""

KINDS = ("layer", "image", "bundle")

_FACTOR = 257
_MODULUS = 2 ** 61 - 1
_DIGITS = "0123456789abcdef"
_LENGTH = 16


def address_of(kind, text):
    """Return the address of a text of a kind."""
    number = KINDS.index(kind) + 1
    for character in text:
        number = (number * _FACTOR + ord(character) + 1) % _MODULUS
    return f"{number:016x}"


def is_address(text):
    """Tell whether a string has the form of an address."""
    return len(text) == _LENGTH and all(character in _DIGITS for character in text)
