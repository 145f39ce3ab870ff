"""Points ST1, ST2 and ST3: the store, whole blobs and closures."""

import unittest

from layerwharf.addresses import address_of
from layerwharf.images import bundle_text, image_text
from layerwharf.store import BELOW, Store

ABSENT = address_of("layer", "nobody keeps this")
# Two unlike layers with the same address, and a layer with the address of the image without layers.
SAME, ALSO_SAME = "nnnnnnnnnnnnnnnn", "hsnhoxunioekqjml"
LIKE_EMPTY_IMAGE = "pofoppntpomkqjtz"


def platforms(many):
    return ["abcdefghij"[at // 10] + "abcdefghij"[at % 10] for at in range(many)]


def keep_layers(store, *texts):
    return [store.keep("layer", text) for text in texts]


def keep_image(store, *layers):
    return store.keep("image", image_text(layers))


def keep_bundle(store, *images):
    return store.keep("bundle", bundle_text(list(zip(platforms(len(images)), images))))


class BlobsTest(unittest.TestCase):
    def test_the_example_of_the_interface(self):
        store = Store()
        layer = store.keep("layer", "a")
        image = store.keep("image", "image\n" + layer + "\n" + layer + "\n")
        self.assertEqual((store.is_whole(image), len(store.closure(image))), (True, 2))
        self.assertIsNone(store.remove_blob(layer))
        self.assertEqual((store.is_whole(image), store.blob(layer)), (False, None))

    def test_the_dict_below(self):
        self.assertEqual(BELOW, {"image": "layer", "bundle": "image"})

    def test_keep_returns_the_address_of_the_kind_and_the_text(self):
        store = Store()
        layer = address_of("layer", "a")
        image = address_of("image", image_text([layer]))
        for kind, text in (
            ("layer", ""), ("layer", "a"), ("layer", "image\n"), ("layer", "x\n" * 500), ("image", "image\n"),
            ("image", image_text([layer, layer])), ("bundle", bundle_text([("mill", image)])),
        ):
            self.assertEqual(store.keep(kind, text), address_of(kind, text))

    def test_a_blob_is_the_pair_of_its_kind_and_its_text(self):
        store = Store()
        layer = store.keep("layer", "image\n")
        image = keep_image(store, layer)
        bundle = keep_bundle(store, image)
        self.assertEqual(store.blob(layer), ("layer", "image\n"))
        self.assertEqual(store.blob(image), ("image", image_text([layer])))
        self.assertEqual(store.blob(bundle), ("bundle", bundle_text([("aa", image)])))
        for address in (layer, image, bundle):
            self.assertIs(type(store.blob(address)), tuple)

    def test_the_same_text_of_two_kinds_makes_two_blobs(self):
        store = Store()
        layer, image = store.keep("layer", "image\n"), store.keep("image", "image\n")
        self.assertEqual((store.blob(layer), store.blob(image)), (("layer", "image\n"), ("image", "image\n")))
        self.assertEqual(store.addresses(), sorted([layer, image]))

    def test_what_is_not_there_has_no_blob(self):
        store = Store()
        self.assertIsNone(store.blob(ABSENT))
        keep_image(store, ABSENT)
        self.assertIsNone(store.blob(ABSENT))
        self.assertIsNone(store.blob(""))
        self.assertIsNone(store.blob("layer"))

    def test_images_and_bundles_are_stored_before_what_they_refer_to(self):
        store = Store()
        bundle = keep_bundle(store, keep_image(Store(), ABSENT))
        self.assertEqual(store.addresses(), [bundle])

    def test_storing_the_same_blob_again_leaves_one(self):
        store = Store()
        self.assertEqual(store.keep("layer", "a"), store.keep("layer", "a"))
        self.assertEqual(store.addresses(), [address_of("layer", "a")])
        self.assertEqual(store.blob(address_of("layer", "a")), ("layer", "a"))

    def test_a_blob_replaces_another_one_with_the_same_address(self):
        store = Store()
        address = store.keep("layer", SAME)
        self.assertEqual(store.keep("layer", ALSO_SAME), address)
        self.assertEqual((store.blob(address), store.addresses()), (("layer", ALSO_SAME), [address]))
        store.keep("layer", SAME)
        self.assertEqual((store.blob(address), store.addresses()), (("layer", SAME), [address]))

    def test_a_blob_replaces_one_of_another_kind_with_the_same_address(self):
        store = Store()
        address = store.keep("layer", LIKE_EMPTY_IMAGE)
        image = keep_image(store, address)
        self.assertTrue(store.is_whole(image))
        self.assertEqual(store.keep("image", "image\n"), address)
        self.assertEqual((store.blob(address), store.is_whole(image)), (("image", "image\n"), False))
        store.keep("layer", LIKE_EMPTY_IMAGE)
        self.assertEqual((store.blob(address), store.is_whole(image)), (("layer", LIKE_EMPTY_IMAGE), True))

    def test_removing_a_blob_and_storing_it_again(self):
        store = Store()
        one, other = keep_layers(store, "a", "b")
        self.assertIsNone(store.remove_blob(one))
        self.assertEqual((store.blob(one), store.blob(other)), (None, ("layer", "b")))
        self.assertEqual(store.addresses(), [other])
        self.assertEqual(store.keep("layer", "a"), one)
        self.assertEqual((store.blob(one), store.addresses()), (("layer", "a"), sorted([one, other])))
        store.remove_blob(one)
        store.remove_blob(other)
        self.assertEqual(store.addresses(), [])

    def test_removing_a_blob_removes_nothing_below_and_nothing_above(self):
        store = Store()
        layer = store.keep("layer", "a")
        image = keep_image(store, layer)
        bundle = keep_bundle(store, image)
        store.remove_blob(image)
        self.assertEqual(store.addresses(), sorted([layer, bundle]))

    def test_the_addresses_are_in_ascending_order(self):
        store = Store()
        self.assertEqual(store.addresses(), [])
        found = []
        for text in ("zebra crossing", "", "b", "hello world", "a", "zz", "image\n"):
            found += [store.keep("layer", text), store.keep("layer", text + text)]
            found.append(keep_image(store, found[0]))
            self.assertEqual(store.addresses(), sorted(set(found)))
        self.assertNotEqual(found, sorted(found))

    def test_two_stores_have_nothing_in_common(self):
        one, other = Store(), Store()
        one.keep("layer", "a")
        self.assertEqual((other.addresses(), other.blob(address_of("layer", "a"))), ([], None))


class BelowTest(unittest.TestCase):
    def test_a_layer_has_nothing_below(self):
        store = Store()
        for text in ("", "a", image_text([ABSENT]), bundle_text([("mill", ABSENT)])):
            self.assertEqual(store.below(store.keep("layer", text)), [])

    def test_an_image_has_its_layers_below_in_order(self):
        store = Store()
        a, b, c = keep_layers(store, "a", "b", "c")
        self.assertEqual(store.below(keep_image(store)), [])
        self.assertEqual(store.below(keep_image(store, c, a, b)), [c, a, b])
        self.assertEqual(store.below(keep_image(store, b, a, b, b)), [b, a, b, b])

    def test_a_bundle_has_its_images_below_in_order(self):
        store = Store()
        empty = keep_image(store)
        image = keep_image(store, store.keep("layer", "a"))
        self.assertEqual(store.below(keep_bundle(store, image)), [image])
        self.assertEqual(store.below(keep_bundle(store, image, empty, image)), [image, empty, image])

    def test_what_is_below_need_not_be_there(self):
        store = Store()
        image = keep_image(store, ABSENT, ABSENT)
        self.assertEqual(store.below(image), [ABSENT, ABSENT])
        self.assertEqual(store.below(keep_bundle(store, ABSENT)), [ABSENT])


class WholeTest(unittest.TestCase):
    def setUp(self):
        self.store = Store()
        self.one, self.other = keep_layers(self.store, "a", "b")

    def assert_whole(self, *addresses):
        for address in addresses:
            self.assertIs(self.store.is_whole(address), True)

    def assert_not_whole(self, *addresses):
        for address in addresses:
            self.assertIs(self.store.is_whole(address), False)

    def test_what_is_not_there_is_not_whole(self):
        self.assert_not_whole(ABSENT, address_of("image", "image\n"), "")
        self.assertIs(Store().is_whole(self.one), False)

    def test_a_layer_that_is_there_is_whole_whatever_its_text(self):
        texts = ["", "x", image_text([ABSENT]), bundle_text([("mill", ABSENT)]), "image\nwrong"]
        self.assert_whole(*keep_layers(self.store, *texts))

    def test_an_image_without_references_is_whole(self):
        self.assert_whole(keep_image(self.store))

    def test_an_image_with_all_of_its_layers_is_whole(self):
        many = [self.store.keep("layer", "x" * size) for size in range(50)]
        self.assert_whole(keep_image(self.store, self.one), keep_image(self.store, self.other, self.one, self.other))
        self.assert_whole(keep_image(self.store, *many))

    def test_an_image_with_a_layer_that_is_not_there(self):
        self.assert_not_whole(keep_image(self.store, ABSENT))
        self.assert_not_whole(keep_image(self.store, ABSENT, self.one, self.other))
        self.assert_not_whole(keep_image(self.store, self.one, ABSENT, self.other))
        self.assert_not_whole(keep_image(self.store, self.one, self.other, ABSENT))

    def test_an_image_with_an_image_or_a_bundle_for_a_layer(self):
        image = keep_image(self.store, self.one)
        bundle = keep_bundle(self.store, image)
        self.assert_whole(image, bundle)
        for wrong in (image, bundle, keep_image(self.store)):
            self.assert_not_whole(keep_image(self.store, wrong))
            self.assert_not_whole(keep_image(self.store, wrong, self.one))
            self.assert_not_whole(keep_image(self.store, self.one, wrong))

    def test_a_bundle_with_whole_images_is_whole(self):
        image, empty = keep_image(self.store, self.one, self.other), keep_image(self.store)
        self.assert_whole(keep_bundle(self.store, image), keep_bundle(self.store, empty))
        self.assert_whole(keep_bundle(self.store, image, empty, image))
        self.assert_whole(keep_bundle(self.store, *[image, empty] * 25))

    def test_a_bundle_with_an_image_that_is_not_whole(self):
        good, bad = keep_image(self.store, self.one), keep_image(self.store, self.one, ABSENT)
        for images in ([bad], [bad, good], [good, bad], [good, bad, good]):
            self.assert_not_whole(keep_bundle(self.store, *images))

    def test_a_bundle_with_an_image_that_is_not_there(self):
        good, bad = keep_image(self.store, self.one), address_of("image", image_text([self.other]))
        for images in ([bad], [bad, good], [good, bad], [good, bad, good]):
            self.assert_not_whole(keep_bundle(self.store, *images))

    def test_a_bundle_with_a_layer_or_a_bundle_for_an_image(self):
        good = keep_image(self.store, self.one)
        bundle = keep_bundle(self.store, good)
        for bad in (self.one, self.store.keep("layer", "image\n"), bundle):
            for images in ([bad], [bad, good], [good, bad], [good, bad, good]):
                self.assert_not_whole(keep_bundle(self.store, *images))

    def test_removing_a_layer_and_storing_it_again(self):
        image, apart = keep_image(self.store, self.one, self.other), keep_image(self.store, self.one)
        bundle, bundle_apart = keep_bundle(self.store, apart, image), keep_bundle(self.store, apart)
        self.assert_whole(image, apart, bundle, bundle_apart)
        self.store.remove_blob(self.other)
        self.assert_not_whole(self.other, image, bundle)
        self.assert_whole(self.one, apart, bundle_apart)
        self.store.keep("layer", "b")
        self.assert_whole(self.other, image, apart, bundle, bundle_apart)

    def test_removing_an_image_and_storing_it_again(self):
        image, empty = keep_image(self.store, self.one), keep_image(self.store)
        bundle, apart = keep_bundle(self.store, empty, image), keep_bundle(self.store, empty)
        self.assert_whole(image, empty, bundle, apart)
        self.store.remove_blob(image)
        self.assert_not_whole(image, bundle)
        self.assert_whole(empty, apart, self.one)
        keep_image(self.store, self.one)
        self.assert_whole(image, empty, bundle, apart)

    def test_removing_a_bundle_and_storing_it_again(self):
        image = keep_image(self.store, self.one)
        bundle = keep_bundle(self.store, image)
        self.store.remove_blob(bundle)
        self.assert_not_whole(bundle)
        self.assert_whole(image, self.one)
        keep_bundle(self.store, image)
        self.assert_whole(bundle)

    def test_the_last_missing_layer_makes_all_above_whole(self):
        layers = ["x", "y", "z"]
        image = keep_image(self.store, *[address_of("layer", text) for text in layers])
        bundle = keep_bundle(self.store, image)
        for text in layers:
            self.assert_not_whole(image, bundle)
            self.store.keep("layer", text)
        self.assert_whole(image, bundle)

    def test_asking_changes_nothing(self):
        image = keep_image(self.store, self.one, ABSENT)
        before = self.store.addresses()
        for address in (image, ABSENT, self.one):
            self.assertEqual(self.store.is_whole(address), self.store.is_whole(address))
        self.assertEqual(self.store.addresses(), before)


class ClosureTest(unittest.TestCase):
    def setUp(self):
        self.store = Store()
        self.a, self.b, self.c = keep_layers(self.store, "a", "b", "c")

    def test_the_closure_of_a_layer_is_its_address(self):
        self.assertEqual(self.store.closure(self.a), [self.a])
        text = image_text([self.a])
        self.assertEqual(self.store.closure(self.store.keep("layer", text)), [address_of("layer", text)])

    def test_the_closure_of_an_image_has_its_layers_in_order(self):
        for layers in ([], [self.b], [self.c, self.a, self.b], [self.b, self.c, self.a]):
            image = keep_image(self.store, *layers)
            self.assertEqual(self.store.closure(image), [image, *layers])

    def test_a_layer_that_stands_twice_stands_once_at_its_first_place(self):
        image = keep_image(self.store, self.b, self.a, self.b, self.c, self.a)
        self.assertEqual(self.store.closure(image), [image, self.b, self.a, self.c])

    def test_each_image_of_a_bundle_is_followed_by_its_own_layers(self):
        one, two = keep_image(self.store, self.c), keep_image(self.store, self.b, self.a)
        bundle = keep_bundle(self.store, one, two)
        self.assertEqual(self.store.closure(bundle), [bundle, one, self.c, two, self.b, self.a])
        bundle = keep_bundle(self.store, two, one)
        self.assertEqual(self.store.closure(bundle), [bundle, two, self.b, self.a, one, self.c])

    def test_what_several_images_share_stands_once_at_its_first_place(self):
        one, two = keep_image(self.store, self.b, self.a), keep_image(self.store, self.a, self.c, self.b)
        bundle = keep_bundle(self.store, one, two, one, keep_image(self.store))
        empty = address_of("image", "image\n")
        self.assertEqual(self.store.closure(bundle), [bundle, one, self.b, self.a, two, self.c, empty])
        bundle = keep_bundle(self.store, empty, two, one)
        self.assertEqual(self.store.closure(bundle), [bundle, empty, two, self.a, self.c, self.b, one])

    def test_the_closures_of_the_references_in_order_give_the_closure(self):
        images = [keep_image(self.store, *layers) for layers in (
            [self.a, self.b], [self.c, self.a], [], [self.b, self.b, self.c], [self.c])]
        bundle = keep_bundle(self.store, *images, images[1])
        expected = [bundle]
        for image in [*images, images[1]]:
            expected += [address for address in self.store.closure(image) if address not in expected]
        self.assertEqual(self.store.closure(bundle), expected)

    def test_it_has_nothing_of_other_blobs_and_changes_nothing(self):
        image = keep_image(self.store, self.a)
        keep_bundle(self.store, image)
        before = self.store.addresses()
        self.assertEqual(self.store.closure(image), [image, self.a])
        self.assertEqual(self.store.addresses(), before)


class FreshListsTest(unittest.TestCase):
    """Point A2: a list that is returned can be changed without a change of the store."""

    def test_what_is_returned_is_not_shared(self):
        store = Store()
        layer = store.keep("layer", "a")
        image = keep_image(store, layer, layer)
        bundle = keep_bundle(store, image)
        for returned in (
            store.addresses, lambda: store.below(layer), lambda: store.below(image), lambda: store.below(bundle),
            lambda: store.closure(layer), lambda: store.closure(bundle),
        ):
            before = list(returned())
            returned().append(ABSENT)
            returned().clear()
            self.assertIs(type(returned()), list)
            self.assertEqual(returned(), before)
        self.assertEqual((store.blob(ABSENT), store.is_whole(bundle)), (None, True))


if __name__ == "__main__":
    unittest.main()
