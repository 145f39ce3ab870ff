"""Points PU1 and PU2: the requests of a push, and its steps."""

import copy
import unittest

from blobs import image_address, image_of, layer_address
from layerwharf.addresses import address_of
from layerwharf.images import bundle_text, image_text
from layerwharf.pusher import PART, Pusher
from replies import all_replies

TEXTS = ["abcdef", "", "wxyz", "abcdef"]
ABCDEF, EMPTY, WXYZ = [layer_address(text) for text in TEXTS[:3]]
IMAGE = image_address(*TEXTS)
BUNDLE_TEXT = bundle_text([("mill", IMAGE)])
BUNDLE = address_of("bundle", BUNDLE_TEXT)
OTHER = layer_address("quite another layer")
REPLIES = all_replies(
    claims=(1, 3, 4), uploads=(1, 7, 8), addresses=(ABCDEF, EMPTY, WXYZ, IMAGE, BUNDLE, OTHER), names=("app", "other"))
# Requests by their steps, under the claim 3 and with the upload 7; claims and uploads that are not the pusher's: 4, 8.
OPEN = ("open",)
PUT_IMAGE = ("put", 3, "image", image_of(*TEXTS))
PUT_BUNDLE = ("put", 3, "bundle", BUNDLE_TEXT)
CLOSE = ("close", 3)


def has(address):
    return ("has", 3, address)


def part(at, text):
    return ("part", 7, at, text)


def finish(address):
    return ("finish", 7, 3, "layer", address)


class PusherTest(unittest.TestCase):
    def pusher(self, replies, *, platform=None):
        """A pusher that has taken these replies, each of which led to a step."""
        pusher = Pusher(TEXTS, "app", platform=platform, number=10)
        for at, reply in enumerate(replies):
            self.assertIs(pusher.take(reply), True, reply)
            self.assertEqual((pusher.number, pusher.done), (11 + at, False))
        return pusher

    def assert_step(self, replies, request, fitting, *, platform=None):
        """Behind the replies the request is this one, and of all replies just the fitting ones lead to a request."""
        before = self.pusher(replies, platform=platform)
        self.assertEqual(before.request(), request)
        number = before.number
        for reply in REPLIES:
            pusher = copy.deepcopy(before)
            if reply in fitting:
                self.assertIs(pusher.take(reply), True, reply)
                self.assertEqual((pusher.request(), pusher.number, pusher.done), (fitting[reply], number + 1, False))
            else:
                self.assertIs(pusher.take(reply), False, reply)
                self.assertEqual((pusher.request(), pusher.number, pusher.done), (request, number, False))
                self.assertEqual(vars(pusher), vars(before))
        self.assertEqual([reply for reply in fitting if reply not in REPLIES], [])


OPENED = [("claim", 3)]
STARTED = [*OPENED, ("lacks", ABCDEF), ("upload", 7)]
SENT = [*STARTED, ("have", 7, 4), ("have", 7, 6)]
TO_EMPTY = [*OPENED, ("kept", ABCDEF)]
TO_WXYZ = [*TO_EMPTY, ("kept", EMPTY)]
TO_LAST = [*TO_WXYZ, ("kept", WXYZ)]
TO_IMAGE = [*TO_LAST, ("kept", ABCDEF)]
TO_BEHIND = [*TO_IMAGE, ("kept", IMAGE)]


class StepsTest(PusherTest):
    def test_step_1(self):
        fitting = {("claim", claim): ("has", claim, ABCDEF) for claim in (1, 3, 4)}
        self.assert_step([], OPEN, fitting)
        self.assert_step([], OPEN, fitting, platform="mill")

    def test_step_2(self):
        lapsed = {("lapsed", 3): OPEN}
        self.assert_step(OPENED, has(ABCDEF), {
            ("kept", ABCDEF): has(EMPTY), ("lacks", ABCDEF): ("start", 3), **lapsed})
        self.assert_step(TO_EMPTY, has(EMPTY), {("kept", EMPTY): has(WXYZ), ("lacks", EMPTY): ("start", 3), **lapsed})
        self.assert_step(TO_LAST, has(ABCDEF), {
            ("kept", ABCDEF): PUT_IMAGE, ("lacks", ABCDEF): ("start", 3), **lapsed})

    def test_step_3(self):
        self.assert_step([*OPENED, ("lacks", ABCDEF)], ("start", 3), {
            **{("upload", upload): ("part", upload, 0, "abcd") for upload in (1, 7, 8)}, ("lapsed", 3): OPEN})

    def test_step_3_of_an_empty_layer(self):
        self.assert_step([*TO_EMPTY, ("lacks", EMPTY)], ("start", 3), {
            **{("upload", upload): ("finish", upload, 3, "layer", EMPTY) for upload in (1, 7, 8)}, ("lapsed", 3): OPEN})

    def test_step_4(self):
        rests = {at: part(at, "abcdef"[at:at + PART]) for at in range(6)}
        fitting = {("have", 7, length): rests.get(length, finish(ABCDEF)) for length in range(12)}
        fitting[("gone", 7)] = has(ABCDEF)
        self.assert_step(STARTED, part(0, "abcd"), fitting)
        self.assert_step([*STARTED, ("have", 7, 4)], part(4, "ef"), fitting)
        self.assert_step([*STARTED, ("have", 7, 0)], part(0, "abcd"), fitting)
        self.assert_step([*STARTED, ("have", 7, 1)], part(1, "bcde"), fitting)

    def test_step_4_of_a_layer_as_long_as_a_part(self):
        rests = {at: part(at, "wxyz"[at:]) for at in range(4)}
        fitting = {("have", 7, length): rests.get(length, finish(WXYZ)) for length in range(12)}
        self.assert_step([*TO_WXYZ, ("lacks", WXYZ), ("upload", 7)], part(0, "wxyz"), {
            **fitting, ("gone", 7): has(WXYZ)})

    def test_step_5(self):
        always = {("lapsed", 3): OPEN}
        self.assert_step(SENT, finish(ABCDEF), {
            ("kept", ABCDEF): has(EMPTY), ("wrong", ABCDEF): ("start", 3), ("gone", 7): has(ABCDEF), **always})
        self.assert_step([*TO_EMPTY, ("lacks", EMPTY), ("upload", 7)], finish(EMPTY), {
            ("kept", EMPTY): has(WXYZ), ("wrong", EMPTY): ("start", 3), ("gone", 7): has(EMPTY), **always})
        self.assert_step([*TO_LAST, ("lacks", ABCDEF), ("upload", 7), ("have", 7, 9)], finish(ABCDEF), {
            ("kept", ABCDEF): PUT_IMAGE, ("wrong", ABCDEF): ("start", 3), ("gone", 7): has(ABCDEF), **always})

    def put_replies(self, right, behind, again):
        addresses = (ABCDEF, EMPTY, WXYZ, IMAGE, BUNDLE, OTHER)
        return {
            **{("kept", address): again for address in addresses}, ("malformed",): again, ("kept", right): behind,
            **{("lacks", address): has(ABCDEF) for address in addresses}, ("lapsed", 3): OPEN,
        }

    def test_step_6(self):
        name = ("name", 3, "app", IMAGE)
        self.assert_step(TO_IMAGE, PUT_IMAGE, self.put_replies(IMAGE, name, PUT_IMAGE))
        self.assert_step(TO_IMAGE, PUT_IMAGE, self.put_replies(IMAGE, PUT_BUNDLE, PUT_IMAGE), platform="mill")
        again = [*TO_IMAGE, ("malformed",), ("kept", OTHER)]
        self.assert_step(again, PUT_IMAGE, self.put_replies(IMAGE, name, PUT_IMAGE))

    def test_step_7(self):
        replies = self.put_replies(BUNDLE, ("name", 3, "app", BUNDLE), PUT_BUNDLE)
        self.assert_step(TO_BEHIND, PUT_BUNDLE, replies, platform="mill")
        again = [*TO_BEHIND, ("kept", IMAGE), ("malformed",)]
        self.assert_step(again, PUT_BUNDLE, replies, platform="mill")

    def test_step_8(self):
        self.assert_step(TO_BEHIND, ("name", 3, "app", IMAGE), {
            ("named", "app", IMAGE): CLOSE, ("lacks", IMAGE): has(ABCDEF), ("lapsed", 3): OPEN})
        self.assert_step([*TO_BEHIND, ("kept", BUNDLE)], ("name", 3, "app", BUNDLE), {
            ("named", "app", BUNDLE): CLOSE, ("lacks", BUNDLE): has(ABCDEF), ("lapsed", 3): OPEN}, platform="mill")

    def test_step_9(self):
        pusher = self.pusher([*TO_BEHIND, ("named", "app", IMAGE)])
        self.assertEqual(pusher.request(), CLOSE)
        for reply in REPLIES:
            if reply != ("closed", 3):
                before = copy.deepcopy(vars(pusher))
                self.assertIs(pusher.take(reply), False, reply)
                self.assertEqual(vars(pusher), before)
        number = pusher.number
        self.assertIs(pusher.take(("closed", 3)), True)
        self.assertEqual((pusher.request(), pusher.done, pusher.number), (None, True, number))

    def test_behind_the_end(self):
        for platform, address in ((None, IMAGE), ("mill", BUNDLE)):
            replies = TO_BEHIND if platform is None else [*TO_BEHIND, ("kept", BUNDLE)]
            pusher = self.pusher([*replies, ("named", "app", address)], platform=platform)
            pusher.take(("closed", 3))
            before = copy.deepcopy(vars(pusher))
            for reply in REPLIES:
                self.assertIs(pusher.take(reply), False, reply)
                self.assertEqual(vars(pusher), before)

    def test_a_claim_that_lapsed_begins_the_push_anew(self):
        for replies, platform in (
            (OPENED, None), (TO_WXYZ, None), ([*OPENED, ("lacks", ABCDEF)], None), (SENT, None), (TO_IMAGE, None),
            (TO_BEHIND, "mill"), (TO_BEHIND, None),
        ):
            pusher = self.pusher([*replies, ("lapsed", 3)], platform=platform)
            self.assertEqual(pusher.request(), OPEN)
            self.assertIs(pusher.take(("lapsed", 3)), False)
            self.assertIs(pusher.take(("claim", 5)), True)
            self.assertEqual(pusher.request(), ("has", 5, ABCDEF))
            self.assertIs(pusher.take(("lapsed", 3)), False)
            self.assertIs(pusher.take(("lacks", ABCDEF)), True)
            self.assertEqual(pusher.request(), ("start", 5))

    def test_the_lapse_of_another_claim(self):
        for replies in (OPENED, [*OPENED, ("lacks", ABCDEF)], SENT, TO_IMAGE, TO_BEHIND):
            pusher = self.pusher(replies)
            before = (pusher.request(), pusher.number)
            for claim in (0, 1, 2, 4, 13):
                self.assertIs(pusher.take(("lapsed", claim)), False)
            self.assertEqual((pusher.request(), pusher.number), before)

    def test_a_lapse_does_not_fit_the_requests_without_a_claim(self):
        for replies in ([], STARTED, [*TO_BEHIND, ("named", "app", IMAGE)]):
            pusher = self.pusher(replies)
            self.assertIs(pusher.take(("lapsed", 3)), False)

    def test_a_second_upload_of_the_same_layer_begins_at_its_beginning(self):
        pusher = self.pusher([*SENT, ("wrong", ABCDEF), ("upload", 8)])
        self.assertEqual(pusher.request(), ("part", 8, 0, "abcd"))
        self.assertIs(pusher.take(("have", 7, 4)), False)
        pusher = self.pusher([*STARTED, ("have", 7, 4), ("gone", 7), ("lacks", ABCDEF), ("upload", 8), ("have", 8, 4)])
        self.assertEqual(pusher.request(), ("part", 8, 4, "ef"))


class PushesTest(unittest.TestCase):
    """Pushes from their beginning to their end, with replies as a registry gives them."""

    def requests(self, pusher, has_nothing=True):
        """The words of all requests, where the registry has nothing or everything."""
        words, length = [], 0
        while not pusher.done:
            request = pusher.request()
            words.append(request[0] if request[0] != "put" else request[2])
            number = pusher.number
            if request[0] == "part":
                length = request[2] + len(request[3])
            put = request[0] == "put" and address_of(*request[2:])
            self.assertIs(pusher.take({
                "open": ("claim", 1), "has": ("lacks" if has_nothing else "kept", request[-1]), "start": ("upload", 1),
                "part": ("have", 1, length), "finish": ("kept", request[-1]), "put": ("kept", put),
                "name": ("named", *request[2:]), "close": ("closed", 1),
            }[request[0]]), True)
            self.assertEqual(pusher.number, number if pusher.done else number + 1)
        return words

    def test_no_layer(self):
        self.assertEqual(self.requests(Pusher([], "app")), ["open", "image", "name", "close"])
        self.assertEqual(self.requests(Pusher([], "app", platform="mill")),
                         ["open", "image", "bundle", "name", "close"])

    def test_no_layer_and_all_replies_that_lead_back(self):
        pusher = Pusher([], "app", platform="mill")
        image = image_address()
        bundle = address_of("bundle", bundle_text([("mill", image)]))
        put_image, put_bundle = ("put", 1, "image", "image\n"), ("put", 1, "bundle", bundle_text([("mill", image)]))
        for reply, request in (
            (("claim", 1), put_image), (("lacks", OTHER), put_image), (("kept", image), put_bundle),
            (("lacks", image), put_image), (("kept", image), put_bundle),
            (("kept", bundle), ("name", 1, "app", bundle)), (("lacks", bundle), put_image),
        ):
            self.assertIs(pusher.take(reply), True)
            self.assertEqual(pusher.request(), request)
        self.assertEqual(pusher.number, 7)

    def test_an_empty_layer(self):
        self.assertEqual(self.requests(Pusher([""], "app")),
                         ["open", "has", "start", "finish", "image", "name", "close"])

    def test_layers_of_several_lengths(self):
        for length, parts in ((1, 1), (3, 1), (4, 1), (5, 2), (8, 2), (9, 3), (100, 25)):
            words = self.requests(Pusher(["x" * length], "app"))
            self.assertEqual(words, ["open", "has", "start", *["part"] * parts, "finish", "image", "name", "close"])

    def test_the_same_layer_twice(self):
        upload = ["has", "start", "part", "finish"]
        self.assertEqual(self.requests(Pusher(["a", "a"], "app")), ["open", *upload, *upload, "image", "name", "close"])

    def test_layers_that_the_registry_has(self):
        words = self.requests(Pusher(["abcdef", "", "wxyz"], "app", platform="mill"), has_nothing=False)
        self.assertEqual(words, ["open", "has", "has", "has", "image", "bundle", "name", "close"])

    def test_fifty_layers_and_more(self):
        for many in (50, 51):
            texts = [str(at) for at in range(many)]
            words = self.requests(Pusher(texts, "app"))
            self.assertEqual(words.count("has"), many)


class FieldsTest(unittest.TestCase):
    def test_the_example_of_the_interface(self):
        pusher = Pusher([], "app", number=5)
        self.assertEqual((pusher.request(), pusher.take(("claim", 2)), pusher.number), (("open",), True, 6))
        self.assertEqual(pusher.request()[:3], ("put", 2, "image"))
        self.assertEqual((pusher.take(("lapsed", 3)), pusher.take(("lapsed", 2))), (False, True))
        self.assertEqual(pusher.request(), ("open",))

    def test_the_length_of_a_part(self):
        self.assertEqual(PART, 4)

    def test_the_fields(self):
        pusher = Pusher(["a", "b"], "app")
        self.assertEqual((pusher.layers, pusher.name, pusher.platform), (["a", "b"], "app", None))
        self.assertEqual((pusher.number, pusher.done), (0, False))
        pusher = Pusher([], "", platform="mill", number=41)
        self.assertEqual((pusher.layers, pusher.name, pusher.platform), ([], "", "mill"))
        self.assertEqual((pusher.number, pusher.done), (41, False))

    def test_the_texts_and_the_address(self):
        pusher = Pusher(TEXTS, "app")
        self.assertEqual(pusher.image(), image_text([layer_address(text) for text in TEXTS]))
        self.assertEqual((pusher.bundle(), pusher.address()), (None, IMAGE))
        pusher = Pusher(TEXTS, "app", platform="mill")
        self.assertEqual((pusher.image(), pusher.bundle()), (image_of(*TEXTS), BUNDLE_TEXT))
        self.assertEqual(pusher.address(), BUNDLE)
        pusher = Pusher([], "app", platform="mill")
        self.assertEqual(pusher.image(), "image\n")
        self.assertEqual(pusher.bundle(), bundle_text([("mill", address_of("image", "image\n"))]))

    def test_the_list_of_the_layers_is_copied(self):
        layers = ["a", "b"]
        pusher = Pusher(layers, "app")
        layers.append("c")
        self.assertEqual((pusher.layers, pusher.image()), (["a", "b"], image_of("a", "b")))
        self.assertIsNot(pusher.layers, layers)
        layers = ["a", "b"]
        pusher = Pusher(layers, "app")
        for reply in (("claim", 1), ("kept", layer_address("a")), ("kept", layer_address("b"))):
            pusher.take(reply)
        self.assertEqual(layers, ["a", "b"])

    def test_asking_for_the_request_changes_nothing(self):
        pusher = Pusher(["a"], "app", number=3)
        for reply in (None, ("claim", 1), ("lacks", layer_address("a")), ("upload", 1), ("have", 1, 1)):
            if reply:
                pusher.take(reply)
            before = copy.deepcopy(vars(pusher))
            self.assertEqual(pusher.request(), pusher.request())
            self.assertEqual(vars(pusher), before)


if __name__ == "__main__":
    unittest.main()
