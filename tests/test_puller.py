"""Point PL1: the requests of a pull, and its steps."""

import copy
import unittest

from blobs import image_address, image_of, layer_address
from layerwharf.addresses import KINDS, address_of
from layerwharf.images import bundle_text, image_text
from layerwharf.puller import PIECE, Puller
from replies import all_replies

LAYER, OTHER, EMPTY = layer_address("abcdabcd"), layer_address("xyz"), layer_address("")
IMAGE_TEXT = image_of("abcdabcd", "xyz")
IMAGE = address_of("image", IMAGE_TEXT)
BUNDLE_TEXT = bundle_text([("quay", image_address()), ("mill", IMAGE)])
BUNDLE = address_of("bundle", BUNDLE_TEXT)
REPLIES = all_replies(
    claims=(1, 3), uploads=(1, 7), addresses=(LAYER, OTHER, EMPTY, IMAGE, BUNDLE), names=("app", "other"))
LOOK = ("look", "app")


def get(address, at=0):
    return ("get", address, at, 4)


def pieces(kind, text):
    """The replies that tell a blob, as a registry gives them for pieces of PIECE characters."""
    address = address_of(kind, text)
    starts = range(0, max(1, len(text)), PIECE)
    return [("piece", address, kind, at, text[at:at + PIECE], len(text)) for at in starts]


class PullerTest(unittest.TestCase):
    def puller(self, *replies, platform=None):
        """A puller that has taken these replies, each of which led to a step."""
        puller = Puller("app", platform=platform)
        for reply in replies:
            self.take(puller, reply)
        return puller

    def take(self, puller, reply, request=None):
        """Hand over a reply that leads to a step, or to the end."""
        number = puller.number
        self.assertIs(puller.take(reply), True, reply)
        self.assertEqual(puller.number, number if puller.done else number + 1)
        if request:
            self.assertEqual(puller.request(), request)

    def give(self, puller, *blobs):
        """Hand over blobs, each by pieces; the puller asks for each piece."""
        for kind, text in blobs:
            for reply in pieces(kind, text):
                self.assertEqual(puller.request(), get(reply[1], reply[3]))
                self.take(puller, reply)

    def give_wrong(self, puller, address, kind, text):
        """Hand over a blob whose text is not that of its address, by one piece each; it is asked for again."""
        self.assertEqual(puller.request(), get(address))
        self.take(puller, ("piece", address, kind, 0, text, len(text)), get(address))

    def assert_refused(self, puller, replies):
        """None of these replies changes anything."""
        before = copy.deepcopy(vars(puller))
        for reply in replies:
            self.assertIs(puller.take(reply), False, reply)
            self.assertEqual(vars(puller), before)

    def assert_ended(self, puller, result):
        self.assertEqual((puller.done, puller.request(), puller.result()), (True, None, result))
        self.assert_refused(puller, REPLIES)


def leads(address):
    return ("leads", "app", address)


class LookTest(PullerTest):
    def test_each_reply(self):
        fitting = [("leads", "app", address) for address in (LAYER, OTHER, EMPTY, IMAGE, BUNDLE)]
        self.assert_refused(self.puller(), [
            reply for reply in REPLIES if reply not in fitting and reply != ("nothing", "app")])
        for reply in fitting:
            puller = self.puller()
            self.take(puller, reply, get(reply[2]))
            self.assertEqual((puller.root, puller.done, puller.result(), puller.kept()), (reply[2], False, None, {}))

    def test_a_name_that_leads_nowhere(self):
        puller = self.puller(("nothing", "app"))
        self.assertIsNone(puller.root)
        self.assert_ended(puller, None)

    def test_a_name_that_leads_nowhere_any_more(self):
        puller = self.puller(leads(IMAGE), ("lacks", IMAGE), ("nothing", "app"))
        self.assertIsNone(puller.root)
        self.assert_ended(puller, None)


class PieceTest(PullerTest):
    """Step 2, at the first layer of an image."""

    def at_layer(self):
        puller = self.puller(leads(IMAGE))
        self.give(puller, ("image", IMAGE_TEXT))
        return puller

    def test_the_replies_that_do_not_fit(self):
        for at in (0, 4):
            puller = self.at_layer()
            if at:
                self.take(puller, ("piece", LAYER, "layer", 0, "abcd", 8))
            self.assertEqual(puller.request(), get(LAYER, at))
            unfit = [reply for reply in REPLIES if reply != ("lacks", LAYER) and reply[:2] != ("piece", LAYER)]
            unfit += [reply for reply in REPLIES if reply[0] == "piece" and reply[3] != at]
            self.assert_refused(puller, unfit)

    def test_every_first_piece(self):
        before = self.at_layer()
        for kind in KINDS:
            for text, length in (("", 0), ("", 4), ("", 8), ("abcd", 0), ("abcd", 3), ("abcd", 4)):
                self.take(copy.deepcopy(before), ("piece", LAYER, kind, 0, text, length), get(LAYER))
            for text, length in (("abcd", 8), ("abcd", 5), ("abcd", 10 ** 20)):
                self.take(copy.deepcopy(before), ("piece", LAYER, kind, 0, text, length), get(LAYER, 4))

    def test_every_second_piece(self):
        before = self.at_layer()
        self.take(before, ("piece", LAYER, "layer", 0, "abcd", 8))
        for kind, text, length, request in (
            ("layer", "abcd", 8, get(OTHER)), ("layer", "abce", 8, get(LAYER)), ("layer", "", 8, get(LAYER)),
            ("layer", "abcda", 8, get(LAYER)), ("layer", "ab", 8, get(LAYER, 6)), ("layer", "abcd", 9, get(LAYER)),
            ("layer", "abcd", 7, get(LAYER)), ("layer", "", 4, get(LAYER)), ("layer", "a", 5, get(LAYER)),
            ("image", "abcd", 8, get(LAYER)), ("bundle", "abcd", 8, get(LAYER)), ("image", "ab", 8, get(LAYER)),
        ):
            puller = copy.deepcopy(before)
            self.take(puller, ("piece", LAYER, kind, 4, text, length), request)
            self.assertIs(LAYER in puller.kept(), request == get(OTHER))

    def test_a_blob_that_is_fetched_again_is_noted_anew(self):
        puller = self.at_layer()
        for wrong in (("image", "abcd", 8), ("layer", "abcd", 12)):
            self.take(puller, ("piece", LAYER, wrong[0], 0, *wrong[1:]), get(LAYER, 4))
            self.take(puller, ("piece", LAYER, "layer", 4, "abcd", 8), get(LAYER))
        self.give(puller, ("layer", "abcdabcd"))
        self.assertEqual(puller.kept()[LAYER], ("layer", "abcdabcd"))

    def test_a_spoilt_piece_makes_the_blob_be_fetched_again_from_its_beginning(self):
        for at, spoilt in ((0, "abxd"), (4, "abcx")):
            puller = self.at_layer()
            for reply in pieces("layer", "abcdabcd"):
                if reply[3] == at:
                    reply = (*reply[:4], spoilt, reply[5])
                self.take(puller, reply)
            self.assertEqual(puller.request(), get(LAYER))
            self.assertNotIn(LAYER, puller.kept())
            self.give(puller, ("layer", "abcdabcd"))
            self.assertEqual(puller.request(), get(OTHER))

    def test_a_blob_of_another_kind_with_the_right_text_is_fetched_again(self):
        puller = self.at_layer()
        for kind in ("image", "bundle"):
            self.take(puller, ("piece", LAYER, kind, 0, "abcd", 8))
            self.take(puller, ("piece", LAYER, kind, 4, "abcd", 8), get(LAYER))
        self.assertNotIn(LAYER, puller.kept())

    def test_pieces_of_other_lengths(self):
        for lengths in ((1, 7), (3, 3, 2), (8,), (1,) * 8):
            puller, at = self.at_layer(), 0
            for length in lengths:
                self.assertEqual(puller.request(), get(LAYER, at))
                self.take(puller, ("piece", LAYER, "layer", at, "abcdabcd"[at:at + length], 8))
                at += length
            self.assertEqual(puller.kept()[LAYER], ("layer", "abcdabcd"))
            self.assertEqual(puller.request(), get(OTHER))

    def test_more_text_than_the_length_is_not_kept_even_if_its_address_is_right(self):
        for length in (0, 4, 7):
            puller = self.at_layer()
            self.take(puller, ("piece", LAYER, "layer", 0, "abcdabcd", length), get(LAYER))
            self.assertNotIn(LAYER, puller.kept())
        puller = self.at_layer()
        self.take(puller, ("piece", LAYER, "layer", 0, "abcd", 7))
        self.take(puller, ("piece", LAYER, "layer", 4, "abcd", 7), get(LAYER))
        self.assertNotIn(LAYER, puller.kept())

    def test_an_empty_piece_at_the_end(self):
        puller = self.at_layer()
        self.take(puller, ("piece", LAYER, "layer", 0, "abcd", 8))
        self.take(puller, ("piece", LAYER, "layer", 4, "", 8), get(LAYER))

    def test_a_blob_that_lacks_leads_to_the_name_again(self):
        for at in (0, 4):
            puller = self.at_layer()
            if at:
                self.take(puller, ("piece", LAYER, "layer", 0, "abcd", 8))
            self.take(puller, ("lacks", LAYER), LOOK)
            self.assertEqual((puller.root, puller.kept()), (IMAGE, {IMAGE: ("image", IMAGE_TEXT)}))
            self.assert_refused(puller, pieces("layer", "abcdabcd"))
            self.take(puller, leads(IMAGE), get(LAYER))
            self.give(puller, ("layer", "abcdabcd"), ("layer", "xyz"))
            self.assert_ended(puller, (IMAGE, ["abcdabcd", "xyz"]))


class PullsTest(PullerTest):
    """Pulls from their beginning to their end."""

    def test_an_image(self):
        puller = self.puller(leads(IMAGE))
        blobs = [("image", IMAGE_TEXT), ("layer", "abcdabcd"), ("layer", "xyz")]
        for at, blob in enumerate(blobs):
            self.assertEqual((puller.done, puller.result()), (False, None))
            self.assertEqual(puller.kept(), {address_of(*some): some for some in blobs[:at]})
            self.give(puller, blob)
        self.assertEqual(puller.kept(), {address_of(*blob): blob for blob in blobs})
        self.assertEqual(puller.root, IMAGE)
        self.assert_ended(puller, (IMAGE, ["abcdabcd", "xyz"]))

    def test_an_image_for_a_puller_with_a_platform(self):
        puller = self.puller(leads(IMAGE), platform="mill")
        self.give(puller, ("image", IMAGE_TEXT), ("layer", "abcdabcd"), ("layer", "xyz"))
        self.assert_ended(puller, (IMAGE, ["abcdabcd", "xyz"]))

    def test_an_image_without_layers(self):
        puller = self.puller(leads(image_address()))
        self.give(puller, ("image", "image\n"))
        self.assert_ended(puller, (image_address(), []))

    def test_an_empty_layer(self):
        address = image_address("", "xyz", "")
        puller = self.puller(leads(address))
        self.give(puller, ("image", image_of("", "xyz", "")), ("layer", ""), ("layer", "xyz"))
        self.assert_ended(puller, (address, ["", "xyz", ""]))

    def test_the_same_layer_twice_is_fetched_once(self):
        address = image_address("xyz", "abcdabcd", "xyz", "xyz")
        puller = self.puller(leads(address))
        self.give(puller, ("image", image_of("xyz", "abcdabcd", "xyz", "xyz")), ("layer", "xyz"), ("layer", "abcdabcd"))
        self.assert_ended(puller, (address, ["xyz", "abcdabcd", "xyz", "xyz"]))

    def test_a_bundle_that_has_the_platform(self):
        puller = self.puller(leads(BUNDLE), platform="mill")
        self.give(puller, ("bundle", BUNDLE_TEXT), ("image", IMAGE_TEXT), ("layer", "abcdabcd"), ("layer", "xyz"))
        self.assert_ended(puller, (BUNDLE, ["abcdabcd", "xyz"]))
        puller = self.puller(leads(BUNDLE), platform="quay")
        self.give(puller, ("bundle", BUNDLE_TEXT), ("image", "image\n"))
        self.assert_ended(puller, (BUNDLE, []))

    def test_a_bundle_that_does_not_have_the_platform(self):
        for platform in ("wharf", "mil", "millx", "", None):
            puller = self.puller(leads(BUNDLE), platform=platform)
            self.give(puller, ("bundle", BUNDLE_TEXT))
            self.assertEqual((puller.root, puller.kept()), (BUNDLE, {BUNDLE: ("bundle", BUNDLE_TEXT)}))
            self.assert_ended(puller, None)

    def test_a_root_that_is_a_layer(self):
        for text in ("xyz", "", "image\n", IMAGE_TEXT, BUNDLE_TEXT):
            puller = self.puller(leads(layer_address(text)), platform="mill")
            self.give(puller, ("layer", text))
            self.assertEqual(puller.root, layer_address(text))
            self.assert_ended(puller, None)

    def test_a_root_whose_text_is_not_well_formed(self):
        for kind, text in (
            ("image", "nonsense"), ("image", IMAGE_TEXT[:-1]), ("image", ""), ("image", BUNDLE_TEXT),
            ("image", image_text([LAYER] * 51)), ("bundle", "bundle\n"), ("bundle", ""), ("bundle", IMAGE_TEXT),
            ("bundle", BUNDLE_TEXT + "mill " + IMAGE + "\n"),
        ):
            puller = self.puller(leads(address_of(kind, text)), platform="mill")
            self.give(puller, (kind, text))
            self.assert_ended(puller, None)

    def test_a_bundle_whose_image_is_none(self):
        for kind, text in (("layer", "xyz"), ("bundle", BUNDLE_TEXT), ("image", "imago\n"), ("layer", "image\n")):
            bundle = bundle_text([("mill", address_of(kind, text))])
            puller = self.puller(leads(address_of("bundle", bundle)), platform="mill")
            self.give(puller, ("bundle", bundle), (kind, text))
            self.assert_ended(puller, None)

    def test_a_layer_of_another_kind_ends_the_pull_when_all_are_kept(self):
        for kind, text in (("image", "image\n"), ("bundle", BUNDLE_TEXT), ("image", "nonsense")):
            other = address_of(kind, text)
            image = image_text([other, LAYER, other])
            puller = self.puller(leads(address_of("image", image)))
            self.give(puller, ("image", image), (kind, text))
            self.assertIs(puller.done, False)
            self.give(puller, ("layer", "abcdabcd"))
            self.assertEqual(sorted(puller.kept()), sorted([address_of("image", image), other, LAYER]))
            self.assert_ended(puller, None)


class KeptTest(PullerTest):
    """Blobs that are kept are not fetched again, whatever the name leads to later."""

    def test_the_name_leads_to_another_image_with_layers_of_the_first(self):
        other = image_of("xyz", "new", "abcdabcd")
        puller = self.puller(leads(IMAGE))
        self.give(puller, ("image", IMAGE_TEXT), ("layer", "abcdabcd"))
        self.take(puller, ("lacks", OTHER), LOOK)
        self.take(puller, leads(address_of("image", other)), get(address_of("image", other)))
        self.assertEqual(puller.root, address_of("image", other))
        self.give(puller, ("image", other), ("layer", "xyz"), ("layer", "new"))
        self.assert_ended(puller, (address_of("image", other), ["xyz", "new", "abcdabcd"]))
        self.assertEqual(len(puller.kept()), 5)

    def test_the_name_leads_to_an_image_that_is_kept_already(self):
        puller = self.puller(leads(BUNDLE), platform="mill")
        self.give(puller, ("bundle", BUNDLE_TEXT), ("image", IMAGE_TEXT), ("layer", "abcdabcd"))
        self.take(puller, ("lacks", OTHER))
        self.take(puller, leads(IMAGE), get(OTHER))
        self.give(puller, ("layer", "xyz"))
        self.assert_ended(puller, (IMAGE, ["abcdabcd", "xyz"]))

    def test_the_name_leads_to_a_bundle_whose_image_is_kept_already(self):
        puller = self.puller(leads(IMAGE), platform="mill")
        self.give(puller, ("image", IMAGE_TEXT), ("layer", "abcdabcd"))
        self.take(puller, ("lacks", OTHER))
        self.take(puller, leads(BUNDLE), get(BUNDLE))
        self.give(puller, ("bundle", BUNDLE_TEXT), ("layer", "xyz"))
        self.assert_ended(puller, (BUNDLE, ["abcdabcd", "xyz"]))

    def test_all_is_kept_when_the_reply_to_the_look_comes(self):
        # An image that stands among the layers of another one is kept when its name comes to lead to it.
        above = image_text([image_address(), OTHER, LAYER])
        puller = self.puller(leads(address_of("image", above)))
        self.give(puller, ("image", above), ("image", "image\n"), ("layer", "xyz"))
        self.take(puller, ("lacks", LAYER))
        for root, result in ((image_address(), (image_address(), [])), (OTHER, None)):
            other = copy.deepcopy(puller)
            self.take(other, leads(root))
            self.assertEqual(other.root, root)
            self.assert_ended(other, result)

    def test_a_blob_that_lacks_again_and_again(self):
        puller = self.puller(leads(IMAGE))
        self.give(puller, ("image", IMAGE_TEXT))
        for _ in range(5):
            self.take(puller, ("lacks", LAYER), LOOK)
            self.take(puller, leads(IMAGE), get(LAYER))
        self.give(puller, ("layer", "abcdabcd"))
        for _ in range(5):
            self.take(puller, ("lacks", OTHER), LOOK)
            self.take(puller, leads(IMAGE), get(OTHER))
        self.give(puller, ("layer", "xyz"))
        self.assert_ended(puller, (IMAGE, ["abcdabcd", "xyz"]))

    def test_wrong_blobs_are_never_kept(self):
        puller = self.puller(leads(IMAGE))
        for kind, text in (("layer", "x"), ("image", "image\n"), ("layer", IMAGE_TEXT), ("bundle", ""), ("image", "")):
            self.give_wrong(puller, IMAGE, kind, text)
        self.assertEqual(puller.kept(), {})


class FieldsTest(PullerTest):
    def test_the_example_of_the_interface(self):
        puller = Puller("app")
        self.assertIs(puller.take(("leads", "other", "00")), False)
        self.assertIs(puller.take(("leads", "app", "0123456789abcdef")), True)
        self.assertEqual(puller.request(), ("get", "0123456789abcdef", 0, 4))
        self.assertIs(puller.take(("lacks", "0123456789abcdef")), True)
        self.assertEqual((puller.request(), puller.number), (("look", "app"), 2))
        self.assertEqual((puller.take(("nothing", "app")), puller.done, puller.result()), (True, True, None))

    def test_the_length_of_a_piece(self):
        self.assertEqual(PIECE, 4)

    def test_the_fields(self):
        puller = Puller("app")
        self.assertEqual((puller.name, puller.number, puller.done, puller.root), ("app", 0, False, None))
        self.assertEqual((puller.request(), puller.result(), puller.kept()), (("look", "app"), None, {}))
        puller = Puller("", platform="mill", number=7)
        self.assertEqual((puller.name, puller.number, puller.request()), ("", 7, ("look", "")))

    def test_the_root_stays_until_the_next_reply_to_a_look(self):
        puller = self.puller(leads(IMAGE), ("lacks", IMAGE))
        self.assertEqual(puller.root, IMAGE)
        self.take(puller, leads(BUNDLE))
        self.assertEqual(puller.root, BUNDLE)

    def test_what_is_returned_is_not_shared(self):
        puller = self.puller(leads(IMAGE))
        self.give(puller, ("image", IMAGE_TEXT))
        puller.kept().clear()
        puller.kept()[OTHER] = ("layer", "xyz")
        self.assertEqual(puller.kept(), {IMAGE: ("image", IMAGE_TEXT)})
        self.assertEqual(puller.request(), get(LAYER))
        self.give(puller, ("layer", "abcdabcd"), ("layer", "xyz"))
        puller.result()[1].append("more")
        self.assertEqual(puller.result(), (IMAGE, ["abcdabcd", "xyz"]))
        self.assertEqual((type(puller.result()), type(puller.result()[1])), (tuple, list))

    def test_two_pullers_have_nothing_in_common(self):
        one, other = Puller("app"), Puller("app")
        self.take(one, leads(image_address()))
        self.give(one, ("image", "image\n"))
        self.assertEqual((other.kept(), other.root, other.request(), other.number), ({}, None, LOOK, 0))


if __name__ == "__main__":
    unittest.main()
