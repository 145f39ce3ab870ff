"""Points RG4, CO2 and CO3: what the registry keeps while it answers in the middle of the collector's rounds."""

import random
import unittest

from blobs import bundle_address, bundle_of, image_address, image_of, is_nameable, layer_address, upload
from layerwharf.addresses import address_of
from layerwharf.registry import Registry

TEXTS = ("", "a", "b", "cc", "ddddd", "image\n")
IMAGES = ((), ("a",), ("a", "b"), ("b", "cc", "b"), ("ddddd", "", "a"), ("image\n",))
BUNDLES = ({"mill": ("a",)}, {"mill": (), "quay": ("a", "b")}, {"wharf": ("b", "cc", "b"), "mill": ("a",)})
NAMES = ("app", "other", "third")
WHOLE = [
    *[("layer", text) for text in TEXTS], *[("image", image_of(*texts)) for texts in IMAGES],
    *[("bundle", bundle_of(**images)) for images in BUNDLES],
]


class MiddleOfARoundTest(unittest.TestCase):
    """A round is brought to each of its moments; then something is told to be kept; then the round ends."""

    def fill(self, registry):
        """Blobs that nothing pins, and a name to which an image leads."""
        registry.answer(("open",))
        registry.answer(("open",))
        for kind, text in WHOLE:
            registry.store.keep(kind, text)
        registry.answer(("name", 2, "old", image_address("ddddd", "", "a")))
        registry.lapse(2)

    def registry_at(self, steps):
        registry = Registry()
        self.fill(registry)
        for _ in range(steps):
            registry.collect()
        return registry

    def end_round(self, registry):
        while registry.collector.phase != "idle":
            registry.collect()

    def rounds(self):
        """A registry for each moment of a round, the idle one before it and the one behind it included."""
        steps = 0
        while True:
            registry = self.registry_at(steps)
            has_ended = steps > 0 and registry.collector.phase == "idle"
            yield registry
            if has_ended:
                return
            steps += 1

    def assert_stays(self, registry, address):
        closure = registry.store.closure(address)
        if registry.collector.phase != "idle":
            for below in closure:
                self.assertIn(below, registry.collector.marked)
        for _ in range(2):
            self.end_round(registry)
            self.assertTrue(registry.store.is_whole(address))
            self.assertEqual(registry.store.closure(address), closure)
            registry.collect()

    def assert_each_phase(self, phases, many):
        """The test is worth something only if it came to its end so often in each phase."""
        for phase in ("idle", "mark", "sweep"):
            self.assertGreaterEqual(phases.count(phase), many, phase)

    def test_the_moments_of_a_round(self):
        phases = [registry.collector.phase for registry in self.rounds()]
        self.assertEqual(sorted(set(phases)), ["idle", "mark", "sweep"])
        self.assertEqual((phases[0], phases[-1], phases.count("idle")), ("idle", "idle", 2))

    def test_what_the_registry_says_that_it_has(self):
        phases = []
        for kind, text in WHOLE:
            for registry in self.rounds():
                address = address_of(kind, text)
                phase = registry.collector.phase
                reply = registry.answer(("has", 1, address))
                if reply == ("kept", address):
                    phases.append(phase)
                    self.assert_stays(registry, address)
                else:
                    self.assertEqual(reply, ("lacks", address))
        self.assert_each_phase(phases, 15)

    def test_a_layer_that_comes_by_parts(self):
        for text in TEXTS:
            for registry in self.rounds():
                self.assertEqual(upload(registry, 1, text), ("kept", layer_address(text)))
                self.assert_stays(registry, layer_address(text))

    def test_a_layer_whose_upload_is_gone(self):
        for registry in self.rounds():
            reply = registry.answer(("finish", 9, 1, "layer", layer_address("b")))
            self.assertIn(reply, (("kept", layer_address("b")), ("gone", 9)))
            if reply[0] == "kept":
                self.assert_stays(registry, layer_address("b"))

    def test_an_image_and_a_bundle_that_are_put(self):
        for registry in self.rounds():
            for text in ("a", "b"):
                upload(registry, 1, text)
            image, bundle = image_of("b", "a"), bundle_of(mill=("b", "a"))
            self.assertEqual(registry.answer(("put", 1, "image", image)), ("kept", address_of("image", image)))
            self.assertEqual(registry.answer(("put", 1, "bundle", bundle)), ("kept", address_of("bundle", bundle)))
            self.assert_stays(registry, address_of("bundle", bundle))

    def test_an_image_that_is_put_with_layers_that_nothing_pins(self):
        phases = []
        for texts in (("cc", "b"), ("", "a"), ("image\n", "ddddd"), ("a", "a")):
            for registry in self.rounds():
                phase = registry.collector.phase
                reply = registry.answer(("put", 1, "image", image_of(*texts)))
                if reply[0] == "kept":
                    phases.append(phase)
                    self.assert_stays(registry, image_address(*texts))
                else:
                    self.assertIn(reply, [("lacks", layer_address(text)) for text in texts])
        self.assert_each_phase(phases, 4)

    def test_what_is_named_stays_when_its_claim_has_ended(self):
        phases = []
        addresses = [bundle_address(**images) for images in BUNDLES] + [image_address(*texts) for texts in IMAGES]
        for address in addresses:
            for registry in self.rounds():
                phase = registry.collector.phase
                reply = registry.answer(("name", 1, "app", address))
                registry.lapse(1)
                if reply == ("named", "app", address):
                    phases.append(phase)
                    self.assert_stays(registry, address)
                else:
                    self.assertEqual((reply, registry.names.get("app")), (("lacks", address), None))
        self.assert_each_phase(phases, 9)

    def test_what_no_name_and_no_claim_needs_any_more_goes_with_a_later_round(self):
        for registry in self.rounds():
            registry.answer(("has", 1, layer_address("b")))
            registry.answer(("drop", "old"))
            registry.answer(("close", 1))
            self.end_round(registry)
            while registry.collect() != "end":
                pass
            self.assertEqual(registry.store.addresses(), [])


class DealingsTest(unittest.TestCase):
    """Long dealings with requests of all kinds, in any order, of clients that may have seen anything."""

    def setUp(self):
        self.registry = Registry()
        self.claims, self.texts = 0, {}
        # What was told to be kept under each claim that is open.
        self.told = {}
        self.words = []

    def ask(self, *request):
        reply = self.registry.answer(request)
        self.words.append(reply[0])
        return reply

    def claim(self, chance):
        """Mostly a claim that is open; otherwise it may have ended, or may never have been."""
        if self.told and chance.randrange(6):
            return chance.choice(list(self.told))
        return chance.randrange(self.claims + 2)

    def note_kept(self, claim, reply):
        if reply[0] in ("kept", "named"):
            self.told[claim].append(reply[-1])

    def send_layer(self, chance):
        """One step of an upload: begin it, add to it, or finish it with the address that it has or another one."""
        step, claim = chance.randrange(4), self.claim(chance)
        if step == 0 or not self.texts:
            reply = self.ask("start", claim)
            if reply[0] == "upload":
                self.texts[reply[1]] = chance.choice(TEXTS)
            return
        number = chance.choice(list(self.texts)[-4:])
        text = self.texts[number]
        if step == 1:
            self.ask("part", number, chance.choice((0, 2)), text if chance.randrange(6) else "spoilt")
        else:
            named = text if chance.randrange(6) else chance.choice(TEXTS)
            self.note_kept(claim, self.ask("finish", number, claim, "layer", layer_address(named)))

    def bring_layer(self, chance):
        """A whole upload at once."""
        if self.told:
            claim = chance.choice(list(self.told))
            self.note_kept(claim, upload(self.registry, claim, chance.choice(TEXTS)))

    def ask_under_a_claim(self, chance):
        claim, (kind, text) = self.claim(chance), chance.choice(WHOLE)
        request = chance.randrange(4)
        if request == 0:
            self.note_kept(claim, self.ask("has", claim, address_of(kind, text)))
        elif request == 1:
            self.note_kept(claim, self.ask("name", claim, chance.choice(NAMES), address_of(kind, text)))
        elif kind != "layer":
            spoilt = text if chance.randrange(4) else text.replace(chance.choice("0a\n"), "1", 1)
            self.note_kept(claim, self.ask("put", claim, kind, spoilt))

    def ask_without_a_claim(self, chance):
        kind, text = chance.choice(WHOLE)
        name = chance.choice(NAMES)
        self.ask("get", address_of(kind, text), chance.randrange(9), 4)
        self.ask("look", name)
        if chance.randrange(3) == 0:
            self.ask("drop", name)

    def open_or_end(self, chance):
        if chance.randrange(2) or not self.told:
            self.claims = self.ask("open")[1]
            self.told[self.claims] = []
            return
        claim = chance.choice(list(self.told))
        if chance.randrange(2):
            self.ask("close", claim)
        else:
            self.registry.lapse(claim)
        del self.told[claim]

    def disturb(self, chance):
        if chance.randrange(4) == 0:
            self.registry.fall()
        elif chance.randrange(2):
            self.registry.drop_name(chance.choice(NAMES))
        else:
            self.registry.store.keep("layer", f"loose {chance.randrange(9)}")

    def collect(self, chance):
        for _ in range(chance.randrange(1, 6)):
            self.words.append(self.registry.collect())
            self.assert_facts()

    def assert_facts(self):
        registry = self.registry
        for root in registry.roots():
            self.assertTrue(registry.store.is_whole(root))
        for address in registry.names.values():
            self.assertTrue(is_nameable(registry, address))
        self.assertEqual(registry.claims.numbers(), list(self.told))
        told = {address for addresses in self.told.values() for address in addresses}
        self.assertEqual(registry.claims.pinned(), sorted(told))
        self.assertEqual(registry.roots(), sorted({*told, *registry.names.values()}))

    def deal(self, seed):
        chance = random.Random(seed)
        dealings = [
            *[self.send_layer] * 12, *[self.bring_layer] * 6, *[self.ask_under_a_claim] * 16,
            *[self.ask_without_a_claim] * 2, self.open_or_end, self.disturb, *[self.collect] * 5,
        ]
        for _ in range(500):
            chance.choice(dealings)(chance)
            self.assert_facts()

    def test_every_root_is_whole_and_no_name_leads_to_a_layer_at_every_moment(self):
        words = []
        for seed in range(40):
            self.setUp()
            self.deal(seed)
            words += self.words
        # The dealings are worth something only if each reply and each word of the collector occurs often.
        for word in (
            "claim", "kept", "lacks", "upload", "have", "gone", "wrong", "malformed", "named", "closed", "leads",
            "nothing", "piece", "dropped", "lapsed", "begin", "mark", "turn", "sweep", "end",
        ):
            self.assertGreater(words.count(word), 50, word)

    def test_two_rounds_behind_the_dealings_leave_exactly_the_closures_of_the_roots(self):
        for seed in range(40):
            self.setUp()
            self.deal(seed)
            self.registry.fall()
            store = self.registry.store
            needed = {address for root in self.registry.roots() for address in store.closure(root)}
            while self.registry.collect() != "end":
                pass
            self.assertEqual(store.addresses(), sorted(needed))


if __name__ == "__main__":
    unittest.main()
