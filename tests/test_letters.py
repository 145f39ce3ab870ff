"""Points LE1, LE2 and LE3: letters, the wire and spoiling."""

import unittest

from layerwharf.letters import MOST_LETTERS, Wire

PART = ("part", 3, 0, "abc")
PUT = ("put", 1, "image", "image\n")
PIECE = ("piece", "0000000000000163", "layer", 4, "wxyz", 8)
# Bodies of each other word, also such as have texts that are long enough to be spoilt.
WITHOUT_TEXT = [
    ("open",), ("has", 1, "0000000000000163"), ("start", 1), ("finish", 1, 2, "layer", "0000000000000163"),
    ("name", 1, "app", "0000000000000163"), ("close", 1), ("look", "app"), ("get", "0000000000000163", 0, 4),
    ("drop", "app"), ("claim", 1), ("kept", "0000000000000163"), ("lacks", "0000000000000163"), ("upload", 1),
    ("have", 1, 2), ("gone", 1), ("wrong", "0000000000000163"), ("malformed",), ("named", "app", "0000000000000163"),
    ("closed", 1), ("leads", "app", "0000000000000163"), ("nothing", "app"), ("dropped", "app"), ("lapsed", 1),
]


def letters(many):
    return [(at % 3, at, ("close", at)) for at in range(many)]


def wire_with(some):
    wire = Wire()
    for letter in some:
        wire.send(letter)
    return wire


class WireTest(unittest.TestCase):
    def test_the_example_of_the_interface(self):
        wire = Wire()
        self.assertIs(wire.send((0, 7, ("part", 3, 0, "abc"))), True)
        self.assertEqual((wire.double(0), wire.spoil(1, 4, "z")), (True, True))
        self.assertEqual(wire.letters, [(0, 7, ("part", 3, 0, "abc")), (0, 7, ("part", 3, 0, "azc"))])
        self.assertEqual(wire.deliver(1), (0, 7, ("part", 3, 0, "azc")))

    def test_the_most_letters(self):
        self.assertEqual(MOST_LETTERS, 60)

    def test_a_new_wire_is_empty_and_shares_nothing(self):
        wire = Wire()
        self.assertEqual(wire.letters, [])
        self.assertIs(type(wire.letters), list)
        wire.send((0, 0, ("open",)))
        self.assertEqual(Wire().letters, [])

    def test_sending_to_an_empty_and_an_ordinary_wire(self):
        wire = Wire()
        for at, letter in enumerate(letters(MOST_LETTERS)):
            self.assertIs(wire.send(letter), True)
            self.assertEqual(wire.letters, letters(at + 1))

    def test_sending_to_a_full_wire_loses_the_letter(self):
        wire = wire_with(letters(MOST_LETTERS))
        for _ in range(3):
            self.assertIs(wire.send((0, 99, ("open",))), False)
            self.assertEqual(wire.letters, letters(MOST_LETTERS))
        wire.deliver(0)
        self.assertIs(wire.send((0, 99, ("open",))), True)
        self.assertEqual(wire.letters, letters(MOST_LETTERS)[1:] + [(0, 99, ("open",))])

    def test_equal_letters_are_letters_each(self):
        wire = wire_with([(0, 1, PART)] * 3)
        self.assertEqual(wire.letters, [(0, 1, PART)] * 3)
        wire.deliver(1)
        self.assertEqual(wire.letters, [(0, 1, PART)] * 2)

    def test_delivering_and_losing_remove_one_letter_whatever_its_place(self):
        for many in (1, 2, 5, MOST_LETTERS):
            for index in (0, many // 2, many - 1):
                left = letters(many)
                letter = left.pop(index)
                wire = wire_with(letters(many))
                self.assertEqual(wire.deliver(index), letter)
                self.assertEqual(wire.letters, left)
                wire = wire_with(letters(many))
                self.assertIsNone(wire.lose(index))
                self.assertEqual(wire.letters, left)

    def test_doubling_puts_a_copy_to_the_end(self):
        for many in (1, 2, 5, MOST_LETTERS - 1):
            for index in (0, many // 2, many - 1):
                wire = wire_with(letters(many))
                self.assertIs(wire.double(index), True)
                self.assertEqual(wire.letters, letters(many) + [letters(many)[index]])

    def test_doubling_in_a_full_wire_changes_nothing(self):
        wire = wire_with(letters(MOST_LETTERS))
        for index in (0, 30, MOST_LETTERS - 1):
            self.assertIs(wire.double(index), False)
            self.assertEqual(wire.letters, letters(MOST_LETTERS))

    def test_an_empty_wire_has_no_letter_to_deliver_lose_double_or_spoil(self):
        wire = Wire()
        for method, told in ((wire.deliver, ()), (wire.lose, ()), (wire.double, ()), (wire.spoil, (0, "x"))):
            self.assertRaises(IndexError, method, 0, *told)
            self.assertEqual(wire.letters, [])

    def test_emptying_a_full_wire(self):
        wire = wire_with(letters(MOST_LETTERS))
        self.assertEqual([wire.deliver(0) for _ in range(MOST_LETTERS)], letters(MOST_LETTERS))
        self.assertEqual(wire.letters, [])
        self.assertIs(wire.send((0, 0, ("open",))), True)


class SpoilingTest(unittest.TestCase):
    def spoilt(self, body, place, character):
        """The body behind the spoiling, in an ordinary wire."""
        around = [(1, 5, body), (2, 7, body), (1, 5, body)]
        wire = wire_with(around)
        changed = wire.spoil(1, place, character)
        client, number, found = wire.letters[1]
        self.assertEqual((client, number, wire.letters[0], wire.letters[2:]), (2, 7, around[0], around[2:]))
        self.assertIs(changed, found != body)
        self.assertIs(type(found), tuple)
        return found

    def test_a_part(self):
        self.assertEqual(self.spoilt(PART, 0, "z"), ("part", 3, 0, "zbc"))
        self.assertEqual(self.spoilt(PART, 1, "z"), ("part", 3, 0, "azc"))
        self.assertEqual(self.spoilt(PART, 2, "\n"), ("part", 3, 0, "ab\n"))

    def test_an_image_or_a_bundle_that_is_put(self):
        self.assertEqual(self.spoilt(PUT, 5, "x"), ("put", 1, "image", "imagex"))
        self.assertEqual(self.spoilt(("put", 2, "bundle", "bundle\n"), 0, "B"), ("put", 2, "bundle", "Bundle\n"))

    def test_a_piece(self):
        self.assertEqual(self.spoilt(PIECE, 0, "!"), ("piece", "0000000000000163", "layer", 4, "!xyz", 8))
        self.assertEqual(self.spoilt(PIECE, 3, "!"), ("piece", "0000000000000163", "layer", 4, "wxy!", 8))

    def test_a_place_beyond_the_length_is_counted_modulo_the_length(self):
        for place, text in ((3, "zbc"), (4, "azc"), (5, "abz"), (6, "zbc"), (3 * 10 ** 20 + 1, "azc")):
            self.assertEqual(self.spoilt(PART, place, "z"), ("part", 3, 0, text))
        self.assertEqual(self.spoilt(PIECE, 7, "!")[4], "wxy!")
        self.assertEqual(self.spoilt(PUT, 8, "x")[3], "imxge\n")
        for place in (0, 1, 2, 17):
            self.assertEqual(self.spoilt(("part", 1, 0, "a"), place, "b"), ("part", 1, 0, "b"))

    def test_the_character_that_stands_there(self):
        for body, place, character in (
            (PART, 1, "b"), (PART, 4, "b"), (PUT, 5, "\n"), (PIECE, 0, "w"), (PIECE, 7, "z"),
        ):
            self.assertEqual(self.spoilt(body, place, character), body)
        self.assertEqual(self.spoilt(PART, 1, "a"), ("part", 3, 0, "aac"))

    def test_an_empty_text(self):
        for body in (("part", 3, 0, ""), ("put", 1, "image", ""), ("piece", "0000000000000001", "layer", 0, "", 0)):
            for place in (0, 1, 99):
                self.assertEqual(self.spoilt(body, place, "x"), body)

    def test_a_letter_without_a_text(self):
        for body in WITHOUT_TEXT:
            for place in range(6):
                self.assertEqual(self.spoilt(body, place, "x"), body)

    def test_in_a_wire_with_one_letter_and_in_a_full_one(self):
        wire = wire_with([(0, 0, PART)])
        self.assertIs(wire.spoil(0, 0, "x"), True)
        self.assertEqual(wire.letters, [(0, 0, ("part", 3, 0, "xbc"))])
        wire = wire_with([(0, at, PART) for at in range(MOST_LETTERS)])
        self.assertIs(wire.spoil(MOST_LETTERS - 1, 0, "x"), True)
        self.assertEqual(wire.letters[-1], (0, MOST_LETTERS - 1, ("part", 3, 0, "xbc")))
        self.assertEqual(wire.letters[:-1], [(0, at, PART) for at in range(MOST_LETTERS - 1)])

    def test_a_copy_is_spoilt_by_itself(self):
        wire = wire_with([(0, 0, PIECE)])
        wire.double(0)
        self.assertIs(wire.spoil(0, 0, "x"), True)
        self.assertEqual((wire.letters[0][2][4], wire.letters[1][2]), ("xxyz", PIECE))

    def test_a_letter_may_be_spoilt_more_than_once(self):
        wire = wire_with([(0, 0, PART)])
        changes = [(0, "x"), (1, "y"), (1, "y"), (0, "a"), (1, "b")]
        answers = [wire.spoil(0, place, character) for place, character in changes]
        self.assertEqual(answers, [True, True, False, True, True])
        self.assertEqual(wire.letters, [(0, 0, PART)])


if __name__ == "__main__":
    unittest.main()
