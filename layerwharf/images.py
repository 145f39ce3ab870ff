"""The texts of images and bundles: writing them and reading them."""

from layerwharf.addresses import is_address
from layerwharf.errors import Malformed

_IMAGE = "image"
_BUNDLE = "bundle"
_MOST_LINES = 50
_LETTERS = "abcdefghijklmnopqrstuvwxyz"
_LONGEST_PLATFORM = 10


def image_text(layers):
    """Return the text of an image with these addresses of layers."""
    return _text_of(_IMAGE, layers)


def bundle_text(entries):
    """Return the text of a bundle with these pairs (platform, address)."""
    return _text_of(_BUNDLE, [f"{platform} {address}" for platform, address in entries])


def read_image(text):
    """Return the list of the addresses in the text of an image, or raise Malformed."""
    layers = _lines_behind(_IMAGE, text)
    for at, layer in enumerate(layers, start=1):
        if not is_address(layer):
            raise Malformed(at)
    return layers


def read_bundle(text):
    """Return the list of the pairs in the text of a bundle, or raise Malformed."""
    lines = _lines_behind(_BUNDLE, text)
    if not lines:
        raise Malformed(1)
    found = {}
    for at, line in enumerate(lines, start=1):
        platform, _, address = line.partition(" ")
        if platform in found or not _is_platform(platform) or not is_address(address):
            raise Malformed(at)
        found[platform] = address
    return list(found.items())


def references(kind, text):
    """Return the list of the addresses in the text of a blob of a kind, or raise Malformed."""
    if kind == _IMAGE:
        return read_image(text)
    if kind == _BUNDLE:
        return [address for _, address in read_bundle(text)]
    return []


def _text_of(word, lines):
    return "".join([f"{line}\n" for line in [word, *lines]])


def _lines_behind(word, text):
    # Only a newline ends a line here; splitlines would also end one at other characters.
    lines = text.split("\n")
    if lines[0] != word:
        raise Malformed(0)
    # Behind the newline of the last line, split leaves an empty text, which is no line.
    if lines.pop() != "":
        raise Malformed(len(lines))
    if len(lines) > _MOST_LINES + 1:
        raise Malformed(_MOST_LINES + 1)
    return lines[1:]


def _is_platform(text):
    return 1 <= len(text) <= _LONGEST_PLATFORM and all(letter in _LETTERS for letter in text)
