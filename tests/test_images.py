"""Points IM1 and IM2: the texts of images and bundles."""

import unittest

from layerwharf.addresses import address_of
from layerwharf.errors import Malformed
from layerwharf.images import bundle_text, image_text, read_bundle, read_image, references

ONE = "0000000000000163"
OTHER = "0000000000000264"
SOME = [address_of("layer", "x" * size) for size in range(60)]
LETTERS = "abcdefghijklmnopqrstuvwxyz"
# Strings that have almost the form of an address.
NO_ADDRESSES = [
    "", "0", ONE[1:], ONE + "0", ONE.replace("163", "16A"), ONE.replace("163", "16g"), " " + ONE, ONE + " ",
    " " + ONE[1:], ONE[1:] + " ", ONE + "\r", "\t" + ONE, ONE[:8] + "-" + ONE[9:], "image", "mill " + ONE,
]
NO_PLATFORMS = ["", "abcdefghijk", "Mill", "mILL", "mill2", "mi-ll", "mi_ll", "mi\tll", "mi`ll", "mi{ll", "mill\r"]


def platforms(many):
    return [LETTERS[at // 26] + LETTERS[at % 26] for at in range(many)]


def entries(many):
    return [(platform, SOME[at]) for at, platform in enumerate(platforms(many))]


class WritingTest(unittest.TestCase):
    def test_the_example_of_the_interface(self):
        self.assertEqual(image_text([ONE]), "image\n0000000000000163\n")

    def test_the_lines_stand_in_order_and_end_with_a_newline(self):
        self.assertEqual(image_text([OTHER, ONE]), f"image\n{OTHER}\n{ONE}\n")
        self.assertEqual(bundle_text([("mill", OTHER)]), f"bundle\nmill {OTHER}\n")
        self.assertEqual(bundle_text([("z", ONE), ("a", OTHER)]), f"bundle\nz {ONE}\na {OTHER}\n")

    def test_an_image_without_layers_and_one_with_a_layer_more_than_once(self):
        self.assertEqual(image_text([]), "image\n")
        self.assertEqual(image_text([ONE, OTHER, ONE]), f"image\n{ONE}\n{OTHER}\n{ONE}\n")

    def test_more_than_50_lines_are_written_without_an_error(self):
        self.assertEqual(image_text(SOME[:52]).split("\n")[1:], SOME[:52] + [""])
        self.assertEqual(len(bundle_text(entries(52)).split("\n")), 54)

    def test_writing_modifies_no_argument(self):
        layers, pairs = [ONE, OTHER, ONE], [("mill", ONE), ("a", OTHER)]
        image_text(layers)
        bundle_text(pairs)
        self.assertEqual(layers, [ONE, OTHER, ONE])
        self.assertEqual(pairs, [("mill", ONE), ("a", OTHER)])


class ReadingTest(unittest.TestCase):
    def test_an_image_is_read_back(self):
        for layers in ([], [ONE], [OTHER, ONE], [ONE, ONE, OTHER, ONE], SOME[:49], SOME[:50], [ONE] * 50):
            self.assertEqual(read_image(image_text(layers)), layers)

    def test_a_bundle_is_read_back(self):
        for pairs in ([("mill", ONE)], [("z", ONE), ("a", OTHER)], entries(49), entries(50)):
            found = read_bundle(bundle_text(pairs))
            self.assertEqual(found, pairs)
            self.assertIs(type(found), list)
            self.assertEqual({type(pair) for pair in found}, {tuple})

    def test_one_image_may_stand_for_several_platforms(self):
        pairs = [("mill", ONE), ("wharf", ONE)]
        self.assertEqual(read_bundle(bundle_text(pairs)), pairs)

    def test_platforms_of_1_and_of_10_letters(self):
        for platform in ["a", "m", "z", "abcdefghij", "zzzzzzzzzz", LETTERS[10:20], LETTERS[16:]]:
            self.assertEqual(read_bundle(f"bundle\n{platform} {ONE}\n"), [(platform, ONE)])

    def test_a_platform_may_be_the_beginning_of_another_one(self):
        pairs = [("mill", ONE), ("mil", OTHER), ("mills", ONE)]
        self.assertEqual(read_bundle(bundle_text(pairs)), pairs)

    def test_texts_are_read_exactly_as_they_are_written(self):
        self.assertEqual(read_image("image\n"), [])
        self.assertEqual(read_image("image\n0000000000000163\n"), [ONE])
        self.assertEqual(read_bundle("bundle\nmill 0000000000000264\n"), [("mill", OTHER)])


class ReferencesTest(unittest.TestCase):
    def test_those_of_an_image_in_order(self):
        self.assertEqual(references("image", image_text([])), [])
        self.assertEqual(references("image", image_text([OTHER, ONE, OTHER])), [OTHER, ONE, OTHER])

    def test_those_of_a_bundle_in_order(self):
        text = bundle_text([("z", OTHER), ("a", ONE), ("m", OTHER)])
        self.assertEqual(references("bundle", text), [OTHER, ONE, OTHER])

    def test_a_layer_has_none_whatever_its_text(self):
        for text in ("", "a", image_text([ONE]), bundle_text([("mill", ONE)]), "image\nwrong"):
            self.assertEqual(references("layer", text), [])

    def test_malformed_texts(self):
        for kind, text, line in (
            ("image", "", 0), ("image", bundle_text([("mill", ONE)]), 0), ("image", f"image\n{ONE}\nwrong\n", 2),
            ("bundle", image_text([ONE]), 0), ("bundle", "bundle\n", 1),
            ("bundle", f"bundle\nmill {ONE}\nmill {ONE}\n", 2),
        ):
            with self.assertRaises(Malformed) as context:
                references(kind, text)
            self.assertEqual(context.exception.line, line)


class FreshListsTest(unittest.TestCase):
    """Point A2: a call does not change what a later one returns."""

    def test_what_is_returned_is_not_shared(self):
        for read, text in (
            (read_image, image_text([ONE, OTHER])),
            (read_bundle, bundle_text([("mill", ONE)])),
            (lambda text: references("image", text), image_text([ONE])),
            (lambda text: references("bundle", text), bundle_text([("mill", ONE)])),
            (lambda text: references("layer", text), "a"),
        ):
            before = list(read(text))
            read(text).append("more")
            self.assertEqual(read(text), before)

    def test_a_call_that_raises_changes_nothing(self):
        good, pairs = image_text([ONE, OTHER]), [("mill", ONE), ("a", OTHER)]
        for text in ("", "image", "image\n\n", f"bundle\nmill {ONE}\na {ONE}\nmill {ONE}\n"):
            self.assertRaises(Malformed, read_image, text)
            self.assertRaises(Malformed, read_bundle, text)
            self.assertEqual(read_image(good), [ONE, OTHER])
            self.assertEqual(read_bundle(bundle_text(pairs)), pairs)


class ReadingWrongTexts(unittest.TestCase):
    def assert_malformed(self, read, text, line):
        with self.assertRaises(Malformed, msg=repr(text)) as context:
            read(text)
        self.assertEqual(context.exception.line, line, repr(text))
        self.assertIs(type(context.exception.line), int)

    def assert_each(self, lines, line):
        """Reading these lines behind the right first word raises Malformed(line)."""
        for word, read in (("image", read_image), ("bundle", read_bundle)):
            self.assert_malformed(read, "\n".join([word, *lines]), line)


class MalformedTest(ReadingWrongTexts):
    def test_the_empty_text(self):
        self.assert_malformed(read_image, "", 0)
        self.assert_malformed(read_bundle, "", 0)

    def test_a_wrong_first_word(self):
        for word in ("", " image", "image ", "Image", "images", "imag", "image\r", "bundle", ONE, "layer"):
            self.assert_malformed(read_image, f"{word}\n", 0)
            self.assert_malformed(read_image, f"{word}\n{ONE}\n", 0)
            self.assert_malformed(read_image, word + f" {ONE}\n", 0)
        for word in ("", " bundle", "bundle ", "Bundle", "bundles", "bundl", "bundle\r", "image", "mill"):
            self.assert_malformed(read_bundle, f"{word}\nmill {ONE}\n", 0)

    def test_a_first_line_without_a_newline(self):
        self.assert_each([], 0)
        self.assert_malformed(read_image, "image" + ONE, 0)

    def test_a_last_line_without_a_newline(self):
        self.assert_malformed(read_image, f"image\n{ONE}", 1)
        self.assert_malformed(read_image, f"image\n{ONE}\n{OTHER}", 2)
        self.assert_malformed(read_bundle, f"bundle\nmill {ONE}", 1)
        self.assert_malformed(read_bundle, f"bundle\nmill {ONE}\na {OTHER}", 2)
        self.assert_malformed(read_image, "\n".join(["image", *SOME[:50]]), 50)

    def test_50_and_51_lines(self):
        self.assertEqual(len(read_image(image_text(SOME[:50]))), 50)
        self.assertEqual(len(read_bundle(bundle_text(entries(50)))), 50)
        for many in (51, 52, 60):
            self.assert_malformed(read_image, image_text(SOME[:many]), 51)
            self.assert_malformed(read_bundle, bundle_text(entries(many)), 51)

    def test_a_bundle_with_no_line_behind_the_first_one(self):
        self.assert_malformed(read_bundle, "bundle\n", 1)

    def test_an_empty_line(self):
        self.assert_each(["", ""], 1)
        self.assert_malformed(read_image, f"image\n{ONE}\n\n{ONE}\n", 2)
        self.assert_malformed(read_image, f"image\n{ONE}\n\n", 2)
        self.assert_malformed(read_bundle, f"bundle\nmill {ONE}\n\n", 2)

    def test_a_line_of_a_wrong_form_in_an_image(self):
        for wrong in NO_ADDRESSES:
            for at in (0, 3, 6):
                layers = SOME[:6]
                layers.insert(at, wrong)
                self.assert_malformed(read_image, image_text(layers), at + 1)

    def test_a_line_of_a_wrong_form_in_a_bundle(self):
        wrongs = [f"mill {wrong}" for wrong in NO_ADDRESSES] + [f"{wrong} {ONE}" for wrong in NO_PLATFORMS]
        for wrong in [*wrongs, "mill" + ONE, f"mill  {ONE}", f" mill {ONE}", f"mill {ONE} ", f"mill\t{ONE}", "mill"]:
            for at in (0, 3, 6):
                lines = [f"{platform} {address}" for platform, address in entries(6)]
                lines.insert(at, wrong)
                self.assert_malformed(read_bundle, "\n".join(["bundle", *lines, ""]), at + 1)

    def test_only_a_newline_ends_a_line(self):
        for sign in "\r\v\f\x1c\x1d\x1e":
            self.assert_malformed(read_image, f"image{sign}{ONE}\n", 0)
            self.assert_malformed(read_image, f"image\n{ONE}{sign}{ONE}\n", 1)
            self.assert_malformed(read_image, f"image\n{ONE}{sign}", 1)
            self.assert_malformed(read_bundle, f"bundle\nmill {ONE}{sign}a {ONE}\n", 1)

    def test_a_platform_that_stands_twice(self):
        self.assert_malformed(read_bundle, "bundle\nmill 0000000000000264\nmill 0000000000000264\n", 2)
        self.assert_malformed(read_bundle, bundle_text([("mill", ONE), ("mill", OTHER)]), 2)
        self.assert_malformed(read_bundle, bundle_text([("mill", ONE), ("a", ONE), ("mill", OTHER), ("a", ONE)]), 3)
        self.assert_malformed(read_bundle, bundle_text([*entries(49), ("aa", ONE)]), 50)


class OrderTest(ReadingWrongTexts):
    """Texts that break two checks: the one that is checked first tells the line."""

    def test_the_first_word_comes_before_all_else(self):
        for read in (read_image, read_bundle):
            self.assert_malformed(read, f"wrong\n{ONE}", 0)
            self.assert_malformed(read, "wrong\n" + f"{ONE}\n" * 51, 0)
            self.assert_malformed(read, "wrong\n\n", 0)
            self.assert_malformed(read, "wrong\n", 0)
        self.assert_malformed(read_bundle, f"wrong\nmill {ONE}\nmill {ONE}\n", 0)

    def test_the_newline_at_the_end_comes_before_the_number_of_lines(self):
        self.assert_malformed(read_image, "\n".join(["image", *SOME[:51]]), 51)
        self.assert_malformed(read_image, "\n".join(["image", *SOME[:60]]), 60)
        self.assert_malformed(read_bundle, bundle_text(entries(60))[:-1], 60)

    def test_the_newline_at_the_end_comes_before_the_first_line_of_a_bundle(self):
        self.assert_malformed(read_bundle, "bundle", 0)

    def test_the_newline_at_the_end_comes_before_the_forms(self):
        self.assert_each(["", "", "wrong"], 3)
        self.assert_malformed(read_image, f"image\nwrong\n{ONE}", 2)
        self.assert_malformed(read_bundle, bundle_text([("mill", ONE), ("mill", ONE), ("a", ONE)])[:-1], 3)

    def test_the_number_of_lines_comes_before_the_forms(self):
        self.assert_each([""] * 52, 51)
        self.assert_malformed(read_image, image_text(["wrong", *SOME[:50]]), 51)
        self.assert_malformed(read_bundle, bundle_text([("Mill", ONE), *entries(50)]), 51)
        self.assert_malformed(read_bundle, bundle_text([("aa", ONE), *entries(50)]), 51)

    def test_of_two_lines_the_earlier_one_is_told(self):
        self.assert_malformed(read_image, f"image\n{ONE}\nwrong\n{ONE}\n\n", 2)
        self.assert_malformed(read_bundle, f"bundle\na {ONE}\na {ONE}\nwrong\n", 2)
        self.assert_malformed(read_bundle, f"bundle\na {ONE}\nwrong\na {ONE}\n", 2)
        self.assert_malformed(read_bundle, f"bundle\nA {ONE}\na {ONE}\na {ONE}\n", 1)


if __name__ == "__main__":
    unittest.main()
