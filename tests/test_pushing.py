"""Point PU3, and PU1 and PU2 with a registry and a wire: pushes in good and in bad dealings."""

import random
import unittest

from blobs import is_nameable, layer_address
from layerwharf.letters import Wire
from layerwharf.pusher import Pusher
from layerwharf.registry import REQUESTS, Registry

PUSHES = [
    ([], None), ([""], None), ([], "mill"), (["abcdefghij", "", "wxyz"], None), (["a", "b", "a"], "mill"),
    (["abcdefghij"], "quay"), (["image\n", "x" * 17], None),
]


class QuietTest(unittest.TestCase):
    """One push after another, each request of which is answered at once."""

    def push(self, registry, pusher):
        words = []
        while not pusher.done:
            reply = registry.answer(pusher.request())
            words.append(reply[0])
            self.assertIs(pusher.take(reply), True)
        return words

    def test_each_push_ends_and_leads_its_name_to_its_address(self):
        registry = Registry()
        for at, (layers, platform) in enumerate(PUSHES):
            pusher = Pusher(layers, f"app {at}", platform=platform)
            self.push(registry, pusher)
            self.assertEqual(registry.names[f"app {at}"], pusher.address())
            self.assertTrue(is_nameable(registry, pusher.address()))
            kind, text = ("image", pusher.image()) if platform is None else ("bundle", pusher.bundle())
            self.assertEqual(registry.store.blob(pusher.address()), (kind, text))
            for layer in layers:
                self.assertEqual(registry.store.blob(layer_address(layer)), ("layer", layer))
        self.assertEqual((registry.claims.numbers(), registry.claims.pinned()), ([], []))

    def test_the_replies_to_a_push(self):
        registry = Registry()
        upload = ["lacks", "upload", "have", "kept"]
        self.assertEqual(self.push(registry, Pusher(["a", "b", "a"], "app", platform="mill")),
                         ["claim", *upload, *upload, "kept", "kept", "kept", "named", "closed"])
        self.assertEqual(self.push(registry, Pusher(["b", "", "a"], "app")),
                         ["claim", "kept", "lacks", "upload", "kept", "kept", "kept", "named", "closed"])

    def test_a_fall_between_any_two_requests(self):
        for layers, platform in PUSHES:
            for fall in range(20):
                registry, pusher = Registry(), Pusher(layers, "app", platform=platform)
                for _ in range(fall):
                    if not pusher.done:
                        pusher.take(registry.answer(pusher.request()))
                registry.fall()
                self.push(registry, pusher)
                self.assertEqual(registry.names, {"app": pusher.address()})

    def test_a_lapse_and_a_round_of_the_collector_between_any_two_requests(self):
        for layers, platform in PUSHES:
            for lapse in range(20):
                registry, pusher = Registry(), Pusher(layers, "app", platform=platform)
                for _ in range(lapse):
                    if not pusher.done:
                        pusher.take(registry.answer(pusher.request()))
                registry.lapse(1)
                while registry.collect() != "end":
                    pass
                self.push(registry, pusher)
                self.assertEqual(registry.names, {"app": pusher.address()})
                self.assertTrue(is_nameable(registry, pusher.address()))


class BadDealingsTest(unittest.TestCase):
    """Several pushes at once over a wire on which letters are lost, doubled, delayed and spoilt."""

    def setUp(self):
        self.registry, self.wire = Registry(), Wire()
        # For each push the replies "named" that the registry gave to requests of it.
        self.named = {}
        self.words = []

    def deliver(self, pushers, index):
        client, number, body = self.wire.deliver(index)
        if body[0] in REQUESTS:
            reply = self.registry.answer(body)
            self.words.append(reply[0])
            if reply[0] == "named":
                self.named.setdefault(client, []).append(reply)
            self.wire.send((client, number, reply))
        elif pushers[client].number == number:
            pushers[client].take(body)

    def letter_event(self, chance, pushers):
        index = chance.randrange(len(self.wire.letters))
        event = chance.randrange(12)
        if event == 0:
            self.wire.lose(index)
        elif event == 1:
            self.wire.double(index)
        elif event in (2, 3):
            texts = [at for at, letter in enumerate(self.wire.letters) if letter[2][0] in ("part", "put")]
            self.wire.spoil(chance.choice(texts or [index]), chance.randrange(60), chance.choice("ab0\n"))
        else:
            self.deliver(pushers, index)

    def other_event(self, chance):
        event = chance.randrange(40)
        if event == 0:
            self.registry.fall()
        elif event == 1:
            self.registry.drop_name(chance.choice(("app", "other")))
        elif event == 2 and self.registry.claims.numbers():
            self.registry.lapse(chance.choice(self.registry.claims.numbers()))
        elif event > 3:
            self.registry.collect()

    def assert_facts(self, pushers):
        for at, pusher in enumerate(pushers):
            if pusher.done:
                self.assertIn(("named", pusher.name, pusher.address()), self.named.get(at, []))
        for address in self.registry.names.values():
            self.assertTrue(is_nameable(self.registry, address))

    def deal(self, seed):
        chance = random.Random(seed)
        pushers = [chance_pusher(chance) for _ in range(3)]
        for _ in range(2000):
            event = chance.randrange(8)
            at = chance.randrange(3)
            if event < 3 and not pushers[at].done:
                self.wire.send((at, pushers[at].number, pushers[at].request()))
            elif event < 7 and self.wire.letters:
                self.letter_event(chance, pushers)
            else:
                self.other_event(chance)
            self.assert_facts(pushers)
        return [pusher.done for pusher in pushers]

    def test_a_push_that_has_ended_was_told_that_its_name_leads_to_it(self):
        ended, words = [], []
        for seed in range(60):
            self.setUp()
            ended += self.deal(seed)
            words += self.words
        # The dealings are worth something only if many pushes end, and if each reply of a push occurs.
        self.assertGreater(ended.count(True), 60)
        for word in (
            "claim", "kept", "lacks", "upload", "have", "gone", "wrong", "malformed", "named", "closed", "lapsed",
        ):
            self.assertGreater(words.count(word), 20, word)


def chance_pusher(chance):
    texts = chance.choices(("", "a", "bcd", "efghij", "klmnopqrst"), k=chance.randrange(4))
    name, platform = chance.choice(("app", "other")), chance.choice((None, "mill"))
    return Pusher(texts, name, platform=platform, number=chance.randrange(3))


if __name__ == "__main__":
    unittest.main()
