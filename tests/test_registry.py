"""Points RG1, RG2 and RG3: what stands, the requests, and the roots."""

import unittest

from blobs import (
    blobs_of, bundle_address, bundle_of, image_address, image_of, layer_address, state_of, upload,
)
from layerwharf.addresses import address_of
from layerwharf.images import bundle_text, image_text
from layerwharf.registry import Registry

ABSENT = layer_address("nobody keeps this")
A, B = layer_address("a"), layer_address("b")
EMPTY_IMAGE = address_of("image", "image\n")
NEVER = (0, -1, 99, 10 ** 20)


class RegistryTest(unittest.TestCase):
    """A registry with the open claims 1, under which nothing is pinned, and 3; the claim 2 has ended."""

    def setUp(self):
        self.registry = Registry()
        for claim in (1, 2, 3):
            self.assertEqual(self.ask("open"), ("claim", claim))
        self.registry.lapse(2)

    def ask(self, *request):
        return self.registry.answer(request)

    def keep(self, *texts):
        """Layers in the store, which nothing pins."""
        return [self.registry.store.keep("layer", text) for text in texts]

    def keep_image(self, *texts):
        """An image in the store, which nothing pins; its layers need not be there."""
        return self.registry.store.keep("image", image_of(*texts))

    def keep_bundle(self, **images):
        return self.registry.store.keep("bundle", bundle_of(**images))

    def pinned(self):
        return self.registry.claims.pinned()

    def assert_nothing_changes(self, request, reply):
        before = state_of(self.registry)
        self.assertEqual(self.registry.answer(request), reply)
        self.assertEqual(state_of(self.registry), before)

    def assert_pins_alone(self, claim, address, request, reply):
        """The request pins one address under the claim and changes nothing else."""
        before = state_of(self.registry)
        self.assertEqual(self.registry.answer(request), reply)
        after = state_of(self.registry)
        self.assertEqual((after[:3], after[4:]), (before[:3], before[4:]))
        self.assertEqual(after[3], sorted({*before[3], address}))
        for other in self.registry.claims.numbers():
            if other != claim:
                self.registry.lapse(other)
        self.assertIn(address, self.pinned())
        self.registry.lapse(claim)
        self.assertNotIn(address, self.pinned())


class ExampleTest(unittest.TestCase):
    def test_the_example_of_the_interface(self):
        registry = Registry()
        replies = (registry.answer(("open",)), registry.answer(("start", 1)), registry.answer(("part", 1, 0, "a")))
        self.assertEqual(replies, (("claim", 1), ("upload", 1), ("have", 1, 1)))
        reply = registry.answer(("finish", 1, 1, "layer", "0000000000000163"))
        self.assertEqual(reply, ("kept", "0000000000000163"))
        replies = registry.answer(("name", 1, "app", "0000000000000163")), registry.answer(("has", 2, "00"))
        self.assertEqual(replies, (("lacks", "0000000000000163"), ("lapsed", 2)))

    def test_a_new_registry_is_empty(self):
        registry = Registry()
        self.assertEqual(state_of(registry), ({}, {}, [], [], "idle", {}))
        self.assertIs(type(registry.names), dict)
        self.assertEqual((registry.roots(), registry.uploads.finish(1)), ([], None))

    def test_two_registries_have_nothing_in_common(self):
        one, other = Registry(), Registry()
        one.answer(("open",))
        upload(one, 1, "a")
        one.answer(("put", 1, "image", image_of("a")))
        one.answer(("name", 1, "app", image_address("a")))
        one.collect()
        self.assertEqual(state_of(other), ({}, {}, [], [], "idle", {}))
        self.assertEqual(other.answer(("open",)), ("claim", 1))
        self.assertEqual(other.answer(("start", 1)), ("upload", 1))


class OpenAndCloseTest(RegistryTest):
    def test_each_open_has_the_next_number(self):
        self.assertEqual([self.ask("open") for _ in range(3)], [("claim", 4), ("claim", 5), ("claim", 6)])
        self.assertEqual(self.registry.claims.numbers(), [1, 3, 4, 5, 6])

    def test_no_number_is_used_again(self):
        self.ask("close", 3)
        self.assertEqual(self.ask("open"), ("claim", 4))
        self.registry.lapse(4)
        self.registry.fall()
        self.assertEqual(self.ask("open"), ("claim", 5))

    def test_close_ends_an_open_claim_and_what_is_pinned_under_it_alone(self):
        self.keep("a", "b")
        self.ask("has", 1, A)
        self.ask("has", 3, A)
        self.ask("has", 3, B)
        self.assertEqual(self.ask("close", 3), ("closed", 3))
        self.assertEqual((self.registry.claims.numbers(), self.pinned()), ([1], [A]))
        self.assertEqual(self.ask("has", 3, A), ("lapsed", 3))
        self.assertEqual(self.ask("close", 1), ("closed", 1))
        self.assertEqual((self.registry.claims.numbers(), self.pinned()), ([], []))
        self.assertEqual(sorted(blobs_of(self.registry)), sorted([A, B]))

    def test_close_of_a_claim_that_has_ended_or_never_was(self):
        self.keep("a")
        self.ask("has", 1, A)
        for claim in (2, *NEVER):
            for _ in range(2):
                self.assert_nothing_changes(("close", claim), ("closed", claim))
        self.ask("close", 1)
        self.assert_nothing_changes(("close", 1), ("closed", 1))


class HasTest(RegistryTest):
    def test_a_whole_blob_of_each_kind_is_kept(self):
        for request in ("layer", "image", "bundle"):
            self.setUp()
            self.keep("a", "b")
            image, bundle = self.keep_image("a", "b"), self.keep_bundle(mill=("a", "b"))
            address = {"layer": A, "image": image, "bundle": bundle}[request]
            self.assert_pins_alone(3, address, ("has", 3, address), ("kept", address))

    def test_what_is_not_there_is_lacking(self):
        for address in (A, ABSENT, "", "00", image_address(), bundle_address(mill=())):
            self.assert_nothing_changes(("has", 1, address), ("lacks", address))

    def test_what_is_there_but_not_whole_is_lacking(self):
        self.keep("a")
        image, bundle = self.keep_image("a", "b"), self.keep_bundle(mill=("a", "b"))
        self.assert_nothing_changes(("has", 1, image), ("lacks", image))
        self.assert_nothing_changes(("has", 1, bundle), ("lacks", bundle))
        self.keep("b")
        self.assertEqual(self.ask("has", 1, bundle), ("kept", bundle))

    def test_what_was_there_is_lacking(self):
        upload(self.registry, 1, "a")
        self.registry.lapse(1)
        while self.registry.collect() != "end":
            pass
        self.assert_nothing_changes(("has", 3, A), ("lacks", A))

    def test_asking_twice_pins_once(self):
        self.keep("a")
        self.ask("has", 1, A)
        self.assert_nothing_changes(("has", 1, A), ("kept", A))


class StartAndPartTest(RegistryTest):
    def test_each_start_has_the_next_number_whatever_the_claim(self):
        self.assertEqual([self.ask("start", claim) for claim in (1, 3, 1)],
                         [("upload", 1), ("upload", 2), ("upload", 3)])

    def test_start_changes_nothing_else(self):
        self.assert_nothing_changes(("start", 1), ("upload", 1))

    def test_no_number_is_used_again(self):
        self.ask("start", 1)
        self.ask("finish", 1, 1, "layer", layer_address(""))
        self.assertEqual(self.ask("start", 1), ("upload", 2))
        self.registry.fall()
        self.assertEqual(self.ask("start", 1), ("upload", 3))

    def test_parts_are_added_at_the_end_alone(self):
        self.ask("start", 1)
        replies = [self.ask("part", 1, at, text) for at, text in (
            (0, "ab"), (0, "ab"), (1, "x"), (3, "x"), (2, ""), (2, "cde"), (2, "cde"), (5, "f"))]
        self.assertEqual(replies, [("have", 1, length) for length in (2, 2, 2, 2, 2, 5, 5, 6)])
        self.assertEqual(self.ask("finish", 1, 1, "layer", layer_address("abcdef")), ("kept", layer_address("abcdef")))

    def test_uploads_do_not_mix(self):
        self.ask("start", 1)
        self.ask("start", 1)
        self.assertEqual(self.ask("part", 2, 0, "xyz"), ("have", 2, 3))
        self.assertEqual(self.ask("part", 1, 0, "a"), ("have", 1, 1))
        self.assertEqual(self.ask("finish", 1, 1, "layer", A), ("kept", A))
        self.assertEqual(self.ask("part", 2, 3, "!"), ("have", 2, 4))

    def test_a_part_of_what_is_gone_or_never_was(self):
        for number in (1, *NEVER):
            self.assert_nothing_changes(("part", number, 0, "a"), ("gone", number))
        self.ask("start", 1)
        self.ask("finish", 1, 1, "layer", A)
        self.assert_nothing_changes(("part", 1, 0, "a"), ("gone", 1))
        self.ask("start", 1)
        self.registry.fall()
        self.assert_nothing_changes(("part", 2, 0, "a"), ("gone", 2))

    def test_a_part_needs_no_claim(self):
        self.ask("start", 1)
        self.registry.lapse(1)
        self.registry.lapse(3)
        self.assertEqual(self.ask("part", 1, 0, "a"), ("have", 1, 1))
        self.ask("open")
        self.assertEqual(self.ask("finish", 1, 4, "layer", A), ("kept", A))


class FinishTest(RegistryTest):
    def begin(self, text):
        number = self.ask("start", 1)[1]
        self.ask("part", number, 0, text)
        return number

    def test_a_layer_is_stored_and_kept(self):
        for text in ("a", "", "image\n", "hello, world\n"):
            self.setUp()
            number, address = self.begin(text), layer_address(text)
            self.assertEqual(self.ask("finish", number, 3, "layer", address), ("kept", address))
            self.assertEqual(blobs_of(self.registry), {address: ("layer", text)})
            self.assertEqual(self.pinned(), [address])
            self.registry.lapse(1)
            self.assertEqual(self.pinned(), [address])
            self.registry.lapse(3)
            self.assertEqual(self.pinned(), [])

    def test_the_upload_is_removed(self):
        number = self.begin("a")
        self.ask("finish", number, 1, "layer", A)
        self.assertEqual(self.ask("part", number, 1, "b"), ("gone", number))

    def test_a_wrong_address_removes_the_upload_and_stores_nothing(self):
        for wrong in (B, ABSENT, "00", "", address_of("image", "a"), address_of("bundle", "a")):
            number = self.begin("a")
            self.assert_nothing_changes(("finish", number, 1, "layer", wrong), ("wrong", wrong))
            self.assertEqual(self.ask("part", number, 1, "b"), ("gone", number))
            self.assert_nothing_changes(("finish", number, 1, "layer", wrong), ("gone", number))

    def test_a_wrong_address_at_which_there_is_a_whole_blob(self):
        self.keep("b")
        number = self.begin("a")
        self.assert_nothing_changes(("finish", number, 1, "layer", B), ("wrong", B))
        self.assert_pins_alone(1, B, ("finish", number, 1, "layer", B), ("kept", B))

    def test_the_text_of_an_image_is_a_layer_here(self):
        number = self.begin("image\n")
        self.assert_nothing_changes(("finish", number, 1, "layer", EMPTY_IMAGE), ("wrong", EMPTY_IMAGE))

    def test_an_upload_that_is_gone_and_a_whole_blob(self):
        for number in (1, *NEVER):
            for kind in ("layer", "image", "bundle"):
                self.setUp()
                self.keep("a")
                image, bundle = self.keep_image("a"), self.keep_bundle(mill=("a",))
                address = {"layer": A, "image": image, "bundle": bundle}[kind]
                self.assert_pins_alone(3, address, ("finish", number, 3, "layer", address), ("kept", address))

    def test_an_upload_that_is_gone_and_no_whole_blob(self):
        image = self.keep_image("a")
        for number in (1, *NEVER):
            for address in (A, ABSENT, image):
                self.assert_nothing_changes(("finish", number, 1, "layer", address), ("gone", number))

    def test_an_upload_that_a_fall_took(self):
        number = self.begin("a")
        self.registry.fall()
        self.assert_nothing_changes(("finish", number, 1, "layer", A), ("gone", number))
        self.keep("a")
        self.assert_pins_alone(1, A, ("finish", number, 1, "layer", A), ("kept", A))

    def test_a_second_finish_of_the_same_upload(self):
        number = self.begin("a")
        self.ask("finish", number, 1, "layer", A)
        self.assert_nothing_changes(("finish", number, 1, "layer", A), ("kept", A))

    def test_the_layer_is_already_there(self):
        self.keep("a")
        number = self.begin("a")
        self.assert_pins_alone(1, A, ("finish", number, 1, "layer", A), ("kept", A))
        self.assertEqual(self.ask("part", number, 1, "b"), ("gone", number))


class PutTest(RegistryTest):
    def assert_put(self, claim, kind, text):
        address = address_of(kind, text)
        before = blobs_of(self.registry)
        pinned = self.pinned()
        self.assertEqual(self.ask("put", claim, kind, text), ("kept", address))
        self.assertEqual(blobs_of(self.registry), {**before, address: (kind, text)})
        self.assertEqual(self.pinned(), sorted({*pinned, address}))
        self.registry.lapse(claim)
        self.assertEqual(self.pinned(), pinned)

    def test_an_image_whose_layers_are_there_is_stored_and_kept(self):
        self.keep("a", "b")
        self.assert_put(1, "image", image_of("a", "b", "a"))
        self.assert_put(3, "image", image_of())

    def test_a_bundle_whose_images_are_whole_is_stored_and_kept(self):
        self.keep("a", "b")
        self.keep_image("a", "b")
        self.keep_image()
        self.assert_put(1, "bundle", bundle_of(mill=("a", "b"), quay=(), wharf=("a", "b")))
        self.assert_put(3, "bundle", bundle_of(quay=()))

    def test_what_is_there_already_is_kept(self):
        self.keep("a")
        image = self.keep_image("a")
        self.assert_pins_alone(1, image, ("put", 1, "image", image_of("a")), ("kept", image))

    def test_what_is_there_but_was_not_whole_is_kept_when_its_layers_have_come(self):
        image = self.keep_image("a")
        self.assert_nothing_changes(("put", 1, "image", image_of("a")), ("lacks", A))
        self.keep("a")
        self.assertEqual(self.ask("put", 1, "image", image_of("a")), ("kept", image))

    def test_texts_that_are_not_well_formed(self):
        self.keep("a")
        self.keep_image("a")
        image, bundle = image_of("a"), bundle_of(mill=("a",))
        for kind, text in (
            ("image", ""), ("image", "image"), ("image", image[:-1]), ("image", image.upper()), ("image", bundle),
            ("image", image + "x\n"), ("image", image_text([A] * 51)), ("image", "\n" + image),
            ("bundle", ""), ("bundle", "bundle\n"), ("bundle", bundle[:-1]), ("bundle", image),
            ("bundle", bundle + bundle.split("\n")[1] + "\n"), ("bundle", bundle_text([("Mill", image_address("a"))])),
        ):
            self.assert_nothing_changes(("put", 1, kind, text), ("malformed",))

    def test_a_text_that_is_not_well_formed_is_told_before_what_is_lacking(self):
        self.assert_nothing_changes(("put", 1, "image", image_text([ABSENT]) + "x\n"), ("malformed",))
        self.assert_nothing_changes(("put", 1, "bundle", bundle_text([("mill", ABSENT)]) + "x"), ("malformed",))

    def test_the_first_reference_that_is_not_there_is_told(self):
        self.keep("a", "b")
        other = layer_address("nor this")
        for layers, lacking in (([ABSENT], ABSENT), ([A, ABSENT, B, other], ABSENT), ([A, other, ABSENT], other),
                                ([other, A], other), ([A, B, A, ABSENT], ABSENT)):
            self.assert_nothing_changes(("put", 1, "image", image_text(layers)), ("lacks", lacking))
        self.keep_image("a")
        absent = image_address("nobody keeps this")
        entries = [("mill", image_address("a")), ("quay", absent), ("wharf", image_address("b"))]
        self.assert_nothing_changes(("put", 1, "bundle", bundle_text(entries)), ("lacks", absent))

    def test_a_reference_that_is_there_but_not_of_the_kind_below(self):
        self.keep("a", "b")
        image, bundle = self.keep_image("a"), self.keep_bundle(mill=("a",))
        for wrong in (image, bundle):
            for layers in ([wrong], [A, wrong, ABSENT], [wrong, A]):
                self.assert_nothing_changes(("put", 1, "image", image_text(layers)), ("lacks", wrong))
        for wrong in (A, bundle):
            for images in ([wrong], [image, wrong, ABSENT], [wrong, image]):
                entries = list(zip(("mill", "quay", "wharf"), images))
                self.assert_nothing_changes(("put", 1, "bundle", bundle_text(entries)), ("lacks", wrong))

    def test_a_reference_of_the_right_kind_that_is_not_whole(self):
        self.keep("a")
        whole, broken = self.keep_image("a"), self.keep_image("a", "b")
        for images in ([broken], [whole, broken], [broken, whole], [broken, ABSENT]):
            entries = list(zip(("mill", "quay"), images))
            self.assert_nothing_changes(("put", 1, "bundle", bundle_text(entries)), ("lacks", broken))


class NameTest(RegistryTest):
    def setUp(self):
        super().setUp()
        self.keep("a", "b")
        self.image, self.bundle = self.keep_image("a", "b"), self.keep_bundle(mill=("a", "b"))

    def test_a_name_leads_to_a_whole_image_or_bundle(self):
        for address in (self.image, self.bundle):
            self.assertEqual(self.ask("name", 1, "app", address), ("named", "app", address))
            self.assertEqual(self.registry.names, {"app": address})
            self.assertEqual(self.ask("look", "app"), ("leads", "app", address))

    def test_what_is_named_is_pinned_under_the_claim(self):
        before = state_of(self.registry)
        self.ask("name", 3, "app", self.image)
        after = state_of(self.registry)
        self.assertEqual(after[1:4], ({"app": self.image}, [1, 3], [self.image]))
        self.assertEqual((after[0], after[4:]), (before[0], before[4:]))
        self.registry.lapse(1)
        self.assertEqual(self.pinned(), [self.image])
        self.registry.lapse(3)
        self.assertEqual((self.pinned(), self.registry.names), ([], {"app": self.image}))

    def test_what_is_not_there_or_not_whole(self):
        broken = self.keep_image("a", "nobody keeps this")
        above = self.keep_bundle(mill=("a", "nobody keeps this"))
        self.ask("name", 1, "app", self.image)
        for address in (ABSENT, "", EMPTY_IMAGE, broken, above):
            self.assert_nothing_changes(("name", 1, "app", address), ("lacks", address))
            self.assert_nothing_changes(("name", 1, "other", address), ("lacks", address))

    def test_a_layer_is_not_named(self):
        self.assert_nothing_changes(("name", 1, "app", A), ("lacks", A))
        for text in ("image\n", image_of("a"), ""):
            layer = self.registry.store.keep("layer", text)
            self.assert_nothing_changes(("name", 1, "app", layer), ("lacks", layer))

    def test_names_are_texts_of_any_form(self):
        for name in ("", "app", "App", "app ", "a\nb"):
            self.assertEqual(self.ask("name", 1, name, self.image), ("named", name, self.image))
        self.assertEqual(sorted(self.registry.names), ["", "App", "a\nb", "app", "app "])


class LookAndDropTest(RegistryTest):
    def test_names_that_are_there_were_there_or_never_were(self):
        self.ask("put", 1, "image", "image\n")
        self.ask("name", 1, "app", EMPTY_IMAGE)
        self.assert_nothing_changes(("look", "app"), ("leads", "app", EMPTY_IMAGE))
        for name in ("other", "", "App", "app "):
            self.assert_nothing_changes(("look", name), ("nothing", name))
            self.assert_nothing_changes(("drop", name), ("dropped", name))
        self.assertEqual(self.ask("drop", "app"), ("dropped", "app"))
        self.assertEqual(self.registry.names, {})
        self.assert_nothing_changes(("look", "app"), ("nothing", "app"))
        self.assert_nothing_changes(("drop", "app"), ("dropped", "app"))

    def test_a_name_that_is_dropped_leaves_its_blob_and_its_pins(self):
        self.ask("put", 1, "image", "image\n")
        self.ask("name", 1, "app", EMPTY_IMAGE)
        self.ask("name", 1, "other", EMPTY_IMAGE)
        before = state_of(self.registry)
        self.ask("drop", "app")
        self.assertEqual(state_of(self.registry), (before[0], {"other": EMPTY_IMAGE}, *before[2:]))

    def test_drop_name(self):
        self.ask("put", 1, "image", "image\n")
        self.ask("name", 1, "app", EMPTY_IMAGE)
        self.ask("name", 1, "other", EMPTY_IMAGE)
        for name in ("app", "app", "never"):
            self.assertIsNone(self.registry.drop_name(name))
            self.assertEqual(self.registry.names, {"other": EMPTY_IMAGE})


class GetTest(RegistryTest):
    def piece(self, text, at, count):
        layer = self.registry.store.keep("layer", text)
        before = state_of(self.registry)
        reply = self.ask("get", layer, at, count)
        self.assertEqual(state_of(self.registry), before)
        self.assertEqual(reply[:4], ("piece", layer, "layer", at))
        self.assertEqual(reply[5:], (len(text),))
        return reply[4]

    def test_pieces_at_before_and_behind_the_end(self):
        for at, count, piece in (
            (0, 4, "abcd"), (1, 4, "bcde"), (2, 4, "cdef"), (3, 4, "def"), (5, 4, "f"), (6, 4, ""), (7, 4, ""),
            (100, 4, ""), (0, 6, "abcdef"), (0, 7, "abcdef"), (0, 100, "abcdef"), (2, 1, "c"), (0, 0, ""), (3, 0, ""),
        ):
            self.assertEqual(self.piece("abcdef", at, count), piece)

    def test_pieces_of_an_empty_text(self):
        for at, count in ((0, 4), (1, 4), (0, 0)):
            self.assertEqual(self.piece("", at, count), "")

    def test_each_kind_is_told(self):
        image, bundle = self.keep_image("a"), self.keep_bundle(mill=("a",))
        self.assertEqual(self.ask("get", image, 0, 4), ("piece", image, "image", 0, "imag", len(image_of("a"))))
        self.assertEqual(self.ask("get", image, 4, 99),
                         ("piece", image, "image", 4, image_of("a")[4:], len(image_of("a"))))
        self.assertEqual(self.ask("get", bundle, 0, 4)[2:5], ("bundle", 0, "bund"))

    def test_what_is_not_there(self):
        self.keep_image("a")
        for address in (ABSENT, A, "", "00"):
            for at in (0, 4):
                self.assert_nothing_changes(("get", address, at, 4), ("lacks", address))


class LapsedTest(RegistryTest):
    """The five requests that need an open claim, under claims that have ended or never were."""

    def setUp(self):
        super().setUp()
        upload(self.registry, 1, "a")
        self.keep_image("a")
        self.ask("start", 1)
        self.ask("part", 2, 0, "b")

    def requests(self, claim):
        image = image_address("a")
        return [
            ("has", claim, A), ("has", claim, ABSENT), ("start", claim), ("finish", 2, claim, "layer", B),
            ("finish", 2, claim, "layer", A), ("finish", 2, claim, "layer", ABSENT), ("finish", 1, claim, "layer", A),
            ("finish", 9, claim, "layer", B), ("put", claim, "image", image_of("a")),
            ("put", claim, "image", "image\n"), ("put", claim, "image", "nonsense"),
            ("put", claim, "image", image_text([ABSENT])),
            ("put", claim, "bundle", bundle_of(mill=("a",))), ("put", claim, "bundle", ""),
            ("name", claim, "app", image), ("name", claim, "app", A), ("name", claim, "app", ABSENT),
        ]

    def test_nothing_else_happens(self):
        self.registry.collect()
        self.registry.lapse(3)
        for claim in (2, 3, *NEVER):
            for request in self.requests(claim):
                self.assert_nothing_changes(request, ("lapsed", claim))
        # Neither has a number been used up nor an upload been removed.
        self.assertEqual(self.ask("start", 1), ("upload", 3))
        self.assertEqual(self.ask("finish", 2, 1, "layer", B), ("kept", B))

    def test_a_claim_that_is_closed_or_lapses_by_itself(self):
        self.assertEqual(self.ask("has", 1, A), ("kept", A))
        self.ask("close", 1)
        self.assertEqual(self.ask("has", 1, A), ("lapsed", 1))
        self.assertEqual(self.ask("has", 3, A), ("kept", A))
        self.assertIsNone(self.registry.lapse(3))
        self.assertEqual(self.ask("has", 3, A), ("lapsed", 3))

    def test_a_lapse_of_what_is_not_open_changes_nothing(self):
        before = state_of(self.registry)
        for claim in (2, *NEVER):
            self.assertIsNone(self.registry.lapse(claim))
            self.assertEqual(state_of(self.registry), before)

    def test_the_other_requests_need_no_claim(self):
        for claim in (1, 3):
            self.registry.lapse(claim)
        replies = [self.registry.answer(request) for request in (
            ("part", 2, 1, "c"), ("close", 1), ("look", "app"), ("get", A, 0, 4), ("drop", "app"), ("open",))]
        self.assertEqual(replies, [
            ("have", 2, 2), ("closed", 1), ("nothing", "app"), ("piece", A, "layer", 0, "a", 1), ("dropped", "app"),
            ("claim", 4)])


class StandsTest(RegistryTest):
    """Point RG1."""

    def test_blobs_names_and_claims_stand_when_the_registry_falls(self):
        upload(self.registry, 1, "a")
        self.keep("loose")
        self.ask("put", 3, "image", image_of("a"))
        self.ask("name", 3, "app", image_address("a"))
        before = state_of(self.registry)
        for _ in range(2):
            self.assertIsNone(self.registry.fall())
            self.assertEqual(state_of(self.registry), before)
        self.assertEqual(self.ask("has", 1, A), ("kept", A))
        self.registry.lapse(1)
        self.registry.lapse(3)
        self.assertEqual(self.pinned(), [])

    def test_uploads_are_lost(self):
        self.ask("start", 1)
        self.ask("start", 3)
        self.ask("part", 2, 0, "ab")
        self.registry.fall()
        for number in (1, 2):
            self.assertEqual(self.ask("part", number, 0, "ab"), ("gone", number))
            self.assertEqual(self.ask("finish", number, 1, "layer", A), ("gone", number))

    def test_the_round_of_the_collector_is_lost_in_each_of_its_moments(self):
        for many in range(12):
            self.setUp()
            upload(self.registry, 1, "a")
            self.keep("b", "c", "d")
            for _ in range(many):
                self.registry.collect()
            left = blobs_of(self.registry)
            self.registry.fall()
            self.assertEqual((self.registry.collector.phase, self.registry.collector.marked), ("idle", {}))
            self.assertEqual(blobs_of(self.registry), left)
            unneeded = len(left) - 1
            words = [self.registry.collect() for _ in range(4 + unneeded)]
            self.assertEqual(words, ["begin", "mark", "turn", *["sweep"] * unneeded, "end"])
            self.assertEqual(blobs_of(self.registry), {A: ("layer", "a")})


class RootsTest(RegistryTest):
    """Point RG3."""

    def test_names_and_pins_in_ascending_order_each_once(self):
        self.assertEqual(self.registry.roots(), [])
        for claim, text in ((1, "a"), (3, "b"), (3, "a"), (1, "zebra"), (1, "quite another layer")):
            upload(self.registry, claim, text)
        for texts in (("a",), ("b",), ()):
            self.ask("put", 1, "image", image_of(*texts))
        for name, texts in (("app", ("b",)), ("other", ("b",)), ("third", ())):
            self.ask("name", 3, name, image_address(*texts))
        layers = [layer_address(text) for text in ("a", "b", "zebra", "quite another layer")]
        images = [image_address("a"), image_address("b"), EMPTY_IMAGE]
        self.assertEqual(self.registry.roots(), sorted(layers + images))
        self.registry.lapse(1)
        self.assertEqual(self.registry.roots(), sorted([A, B, image_address("b"), EMPTY_IMAGE]))
        self.registry.lapse(3)
        self.assertEqual(self.registry.roots(), sorted([image_address("b"), EMPTY_IMAGE]))
        self.registry.drop_name("app")
        self.assertEqual(self.registry.roots(), sorted([image_address("b"), EMPTY_IMAGE]))
        self.registry.drop_name("other")
        self.assertEqual(self.registry.roots(), [EMPTY_IMAGE])
        self.registry.drop_name("third")
        self.assertEqual(self.registry.roots(), [])

    def test_a_name_that_leads_elsewhere_now(self):
        self.ask("put", 1, "image", "image\n")
        upload(self.registry, 1, "a")
        self.ask("put", 1, "image", image_of("a"))
        self.ask("name", 1, "app", EMPTY_IMAGE)
        self.ask("name", 1, "app", image_address("a"))
        self.registry.lapse(1)
        self.assertEqual(self.registry.roots(), [image_address("a")])

    def test_what_is_below_a_root_is_no_root(self):
        self.keep("a")
        self.keep_image("a")
        self.ask("has", 1, image_address("a"))
        self.assertEqual(self.registry.roots(), [image_address("a")])

    def test_the_collector_keeps_what_the_roots_need(self):
        self.keep("a", "b", "loose")
        image, empty = self.keep_image("a"), self.keep_image()
        self.ask("has", 1, B)
        self.ask("name", 3, "app", image)
        self.registry.lapse(3)
        words = [self.registry.collect() for _ in range(8)]
        self.assertEqual(words, ["begin", "mark", "mark", "mark", "turn", "sweep", "sweep", "end"])
        self.assertEqual(sorted(blobs_of(self.registry)), sorted([A, B, image]))
        self.assertIsNone(self.registry.store.blob(empty))


class FreshTest(RegistryTest):
    """Point A2."""

    def test_the_list_of_the_roots_is_not_shared(self):
        upload(self.registry, 1, "a")
        self.registry.roots().append(B)
        self.registry.roots().clear()
        self.assertEqual(self.registry.roots(), [A])
        self.assertIs(type(self.registry.roots()), list)

    def test_replies_are_tuples(self):
        upload(self.registry, 1, "a")
        for request in (("open",), ("has", 1, A), ("has", 2, A), ("start", 1), ("part", 2, 0, "a"),
                        ("finish", 2, 1, "layer", A), ("put", 1, "image", "image\n"), ("put", 1, "image", ""),
                        ("name", 1, "app", EMPTY_IMAGE), ("look", "app"), ("get", A, 0, 4), ("drop", "app"),
                        ("close", 1)):
            self.assertIs(type(self.registry.answer(request)), tuple)


if __name__ == "__main__":
    unittest.main()
