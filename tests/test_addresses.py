"""Point AD1: addresses."""

import unittest

from layerwharf.addresses import KINDS, address_of, is_address

MODULUS = 2 ** 61 - 1
# Longer than any number that 61 bits hold, and with every printable character and the newline.
LONG = "".join(chr(code) for code in range(32, 127)) * 7 + "\n"


def number_of(kind, text):
    """The number of point AD1 without any modulo: as long as it becomes."""
    number = {"layer": 1, "image": 2, "bundle": 3}[kind]
    for character in text:
        number = 257 * number + ord(character) + 1
    return number


class AddressOfTest(unittest.TestCase):
    def test_the_kinds_in_their_order(self):
        self.assertEqual(KINDS, ("layer", "image", "bundle"))
        self.assertIs(type(KINDS), tuple)

    def test_the_examples_of_the_interface(self):
        self.assertEqual(address_of("layer", ""), "0000000000000001")
        self.assertEqual(address_of("layer", "a"), "0000000000000163")
        self.assertEqual(address_of("image", "a"), "0000000000000264")

    def test_each_kind_starts_with_its_own_number(self):
        self.assertEqual(address_of("layer", ""), "0000000000000001")
        self.assertEqual(address_of("image", ""), "0000000000000002")
        self.assertEqual(address_of("bundle", ""), "0000000000000003")
        self.assertEqual(address_of("bundle", "a"), "0000000000000365")

    def test_short_texts_have_zeros_in_front(self):
        for size in range(8):
            for kind in KINDS:
                address = address_of(kind, "~" * size)
                self.assertEqual(address, format(number_of(kind, "~" * size), "x").rjust(16, "0"))
                self.assertTrue(address.startswith("0"))

    def test_the_number_is_taken_modulo_where_it_goes_beyond(self):
        # With seven characters no number reaches the modulus, with eight each one does.
        for text in ("aaaaaaa", "aaaaaaaa", "hello world", "\n" * 40, LONG, LONG * 30):
            for kind in KINDS:
                number = number_of(kind, text)
                self.assertEqual(number >= MODULUS, len(text) > 7)
                self.assertEqual(int(address_of(kind, text), 16), number % MODULUS)

    def test_long_texts_have_these_addresses(self):
        self.assertEqual(address_of("layer", "aaaaaaaa"), "0d3705d11996c31c")
        self.assertEqual(address_of("layer", "hello world"), "187ea688bc2a5d79")
        self.assertEqual(address_of("image", "image\n0000000000000163\n"), "0e0327faeef1e1bc")

    def test_every_address_has_16_digits_of_the_lower_case(self):
        for kind in KINDS:
            for size in range(0, len(LONG), 5):
                self.assertRegex(address_of(kind, LONG[:size]), r"\A[0-9a-f]{16}\Z")

    def test_texts_that_differ_in_one_character_have_unlike_addresses(self):
        for text in ("a", "hello world", "image\n0000000000000163\n", LONG):
            for at in range(len(text)):
                variants = {text[:at] + character + text[at + 1:] for character in text[at] + "\n !0az~"}
                found = {address_of("layer", variant) for variant in variants}
                self.assertEqual(len(found), len(variants))

    def test_unlike_kinds_and_orders_and_lengths_have_unlike_addresses(self):
        for text in ("", "a", "hello world", LONG):
            self.assertEqual(len({address_of(kind, text) for kind in KINDS}), 3)
        self.assertNotEqual(address_of("layer", "ab"), address_of("layer", "ba"))
        self.assertEqual(len({address_of("layer", "a" * size) for size in range(200)}), 200)

    def test_the_same_call_returns_the_same(self):
        self.assertEqual(address_of("bundle", LONG), address_of("bundle", LONG))


class IsAddressTest(unittest.TestCase):
    def assert_no(self, text):
        self.assertIs(is_address(text), False, repr(text))

    def test_yes_to_what_address_of_returns(self):
        for kind in KINDS:
            for text in ("", "a", "hello", LONG):
                self.assertIs(is_address(address_of(kind, text)), True)

    def test_yes_to_each_of_the_digits(self):
        for text in ("0123456789abcdef", "fedcba9876543210", "0" * 16, "f" * 16):
            self.assertIs(is_address(text), True)

    def test_no_to_shorter_and_longer_strings(self):
        for size in range(40):
            if size != 16:
                self.assert_no("0" * size)
        self.assert_no("")

    def test_no_to_capital_letters_and_other_characters(self):
        for character in "ABCDEFGgz:/`@ -+_x.\n\t":
            for at in (0, 7, 15):
                self.assert_no("0" * at + character + "0" * (15 - at))
        self.assert_no("0x" + "0" * 14)
        self.assert_no(" " * 16)

    def test_no_to_a_newline_at_the_end(self):
        self.assert_no(address_of("layer", "a") + "\n")
        self.assert_no("0" * 15 + "\n")


if __name__ == "__main__":
    unittest.main()
