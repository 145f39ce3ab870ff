"""Letters between clients and the registry, and the wire that holds them."""

MOST_LETTERS = 60

# For the bodies that have a text which can be spoilt: the place at which they have it.
_TEXT_AT = {"part": 3, "put": 3, "piece": 4}


class Wire:
    """Letters (client, number, body) in the order in which they were sent."""

    def __init__(self):
        self.letters = []

    def send(self, letter):
        """Put a letter to the end and return True, or lose it and return False if the wire is full."""
        if len(self.letters) >= MOST_LETTERS:
            return False
        self.letters.append(letter)
        return True

    def deliver(self, index):
        """Remove a letter and return it."""
        return self.letters.pop(index)

    def lose(self, index):
        """Remove a letter."""
        del self.letters[index]

    def double(self, index):
        """Put another copy of a letter to the end; return whether the wire had room for it."""
        return self.send(self.letters[index])

    def spoil(self, index, place, character):
        """Change one character of the text of a letter; return whether the letter changed."""
        client, number, body = self.letters[index]
        spoilt = _spoilt_body(body, place, character)
        self.letters[index] = (client, number, spoilt)
        return spoilt != body


def _spoilt_body(body, place, character):
    if body[0] not in _TEXT_AT:
        return body
    at = _TEXT_AT[body[0]]
    text = body[at]
    if text == "":
        return body
    there = place % len(text)
    return body[:at] + (text[:there] + character + text[there + 1:],) + body[at + 1:]
