"""The uploads: texts of layers that come in parts."""


class Uploads:
    """Uploads by their numbers, each with its text so far."""

    def __init__(self):
        self._last = 0
        self._texts = {}

    def begin(self):
        """Begin an upload with an empty text and return its number."""
        self._last += 1
        self._texts[self._last] = ""
        return self._last

    def add_part(self, upload, at, part):
        """Return the length of the text behind the part, or None if there is no such upload."""
        if upload not in self._texts:
            return None
        # A part at any other place is one that came twice or too late, and is not added.
        if at == len(self._texts[upload]):
            self._texts[upload] += part
        return len(self._texts[upload])

    def finish(self, upload):
        """Remove an upload and return its text, or None if there is no such upload."""
        return self._texts.pop(upload, None)

    def forget(self):
        """Remove all uploads; their numbers are not used again."""
        self._texts = {}
