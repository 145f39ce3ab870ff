"""The facts over the whole program (A1, RG4, PU3, PL2, CO3, CA3, JU2), over long dealings of all kinds of events."""

import random
import unittest

from blobs import is_nameable, state_of
from layerwharf.addresses import address_of
from layerwharf.calm import calm_bound, full_collection, run_calm
from layerwharf.images import read_bundle, read_image
from layerwharf.judge import names_are_whole, reachable, shown_moment
from layerwharf.letters import MOST_LETTERS
from layerwharf.puller import Puller
from layerwharf.pusher import Pusher
from layerwharf.registry import REQUESTS
from layerwharf.world import World

NAMES = ("app", "other", "third")
PLATFORMS = (None, None, "mill", "mill", "quay")
TEXTS = ("", "a", "bcd", "efgh", "ijklmno", "pqrstuvwxyz", "image\n", "a much longer layer than the others are")


class NotingWorld(World):
    """A world that notes the replies of the registry to the requests that its facts speak of."""

    def __init__(self):
        super().__init__()
        # The replies "named" by the clients, and those to "look" by the clients and the numbers of the requests.
        self.named, self.led = {}, {}
        # For each client the number of its last request of the name.
        self.looked = {}
        self.words = {}

    def do(self, event):
        for index, client in enumerate(self.clients):
            if isinstance(client, Puller) and not client.done and client.request()[0] == "look":
                self.looked[index] = client.number
        letters = self.wire.letters
        letter = letters[event[1] % len(letters)] if event[0] == "deliver" and letters else None
        super().do(event)
        if letter and letter[2][0] in REQUESTS:
            self.note(*letter, letters[-1][2])

    def note(self, client, number, request, reply):
        self.words[reply[0]] = self.words.get(reply[0], 0) + 1
        if reply[0] == "named":
            self.named.setdefault(client, []).append(reply)
        if request[0] == "look":
            self.led.setdefault((client, number), []).append(reply)

    def archive(self):
        """Whatever a name can lead to, and what is below it, from the pushers alone."""
        blobs = []
        for client in self.clients:
            if isinstance(client, Pusher):
                blobs += [("layer", text) for text in client.layers] + [("image", client.image())]
                if client.platform is not None:
                    blobs.append(("bundle", client.bundle()))
        return {address_of(*blob): blob for blob in blobs}

    def layers_at(self, address, platform):
        """The texts of the layers of the image to which an address leads for a platform, or None."""
        archive = self.archive()
        kind, text = archive[address]
        if kind == "bundle":
            if platform not in dict(read_bundle(text)):
                return None
            text = archive[dict(read_bundle(text))[platform]][1]
        return [archive[layer][1] for layer in read_image(text)]


class Dealing:
    """A world, and events by chance."""

    def __init__(self, seed, clients=7):
        self.chance = random.Random(seed)
        self.world = NotingWorld()
        self.most_clients = clients
        # How often each fault happens is chosen anew for each dealing; some have none of a kind.
        choice = self.chance.choice
        self.weights = {
            "send": 12, "deliver": 24, "collect": choice((0, 3, 12)), "add": 0.3, "lose": choice((0, 1, 3)),
            "double": choice((0, 1, 2)), "spoil": choice((0, 1, 3)), "fall": choice((0, 0.05, 0.2)),
            "lapse": choice((0, 0.05, 0.3)), "drop": choice((0, 0.1, 0.3)),
        }
        self.first = choice((0, 0.3, 0.8))
        self.add_client(Pusher)

    def add_client(self, kind):
        name, platform = self.chance.choice(NAMES), self.chance.choice(PLATFORMS)
        number = self.chance.choice((0, 0, 7))
        if kind == Pusher:
            texts = self.chance.choices(TEXTS, k=self.chance.randrange(5))
            self.world.add_client(Pusher(texts, name, platform=platform, number=number))
        else:
            self.world.add_client(Puller(name, platform=platform, number=number))

    def index(self):
        """The first letter, more or less often, or any letter; the index may be beyond their number."""
        return 0 if self.chance.random() < self.first else self.chance.randrange(2 * MOST_LETTERS)

    def index_of_text(self):
        """The index of a letter that can be spoilt, if there is one."""
        texts = [at for at, letter in enumerate(self.world.wire.letters) if letter[2][0] in ("part", "put", "piece")]
        return self.chance.choice(texts or [self.index()])

    def event(self, word):
        chance = self.chance
        if word in ("fall", "collect"):
            return (word,)
        if word == "send":
            return ("send", chance.randrange(200))
        if word == "spoil":
            return ("spoil", self.index_of_text(), chance.randrange(100), chance.choice("ab0 \n"))
        if word == "lapse":
            return ("lapse", chance.choice(self.world.registry.claims.numbers() or [1]))
        if word == "drop":
            return ("drop", chance.choice(NAMES))
        return (word, self.index())

    def step(self):
        word = self.chance.choices(list(self.weights), weights=list(self.weights.values()))[0]
        if word != "add":
            self.world.do(self.event(word))
        elif len(self.world.clients) < self.most_clients:
            self.add_client(self.chance.choice((Pusher, Puller)))


class FactsTest(unittest.TestCase):
    def assert_moment(self, world):
        """What holds at every moment."""
        self.assertTrue(names_are_whole(world))
        for address in world.registry.names.values():
            self.assertTrue(is_nameable(world.registry, address))
        for root in world.registry.roots():
            self.assertTrue(world.registry.store.is_whole(root))

    def assert_clients(self, world):
        for index, client in enumerate(world.clients):
            moment = shown_moment(world, index)
            if not client.done:
                self.assertEqual((world.ends[index], moment), (None, None))
                continue
            self.assertIsNotNone(moment)
            self.assertTrue(world.begins[index] <= moment <= world.ends[index] <= world.moment)
            if isinstance(client, Pusher):
                self.assertEqual(world.trail[moment][client.name], client.address())
                self.assertIn(("named", client.name, client.address()), world.named[index])
            else:
                self.assert_pull(world, index, world.trail[moment].get(client.name))

    def assert_pull(self, world, index, shown):
        client = world.clients[index]
        replies = world.led[index, world.looked[index]]
        self.assertEqual(client.root, shown)
        if client.root is None:
            self.assertIn(("nothing", client.name), replies)
            self.assertIsNone(client.result())
            return
        self.assertIn(("leads", client.name, client.root), replies)
        layers = world.layers_at(client.root, client.platform)
        self.assertEqual(client.result(), None if layers is None else (client.root, layers))
        for address, (kind, text) in client.kept().items():
            self.assertEqual(address_of(kind, text), address)

    def assert_calm(self, world, steps):
        """All clients end within the bound."""
        rounds = run_calm(world, steps)
        self.assertIsNotNone(rounds)
        self.assertLessEqual(rounds, calm_bound(world))
        self.assertTrue(all(client.done for client in world.clients))
        self.assert_moment(world)
        self.assert_clients(world)

    def assert_collection(self, world):
        """A full collection leaves just what the names need, and a second one changes nothing."""
        for _ in range(2):
            self.assertEqual(full_collection(world), len(reachable(world)))
            self.assertEqual(world.registry.store.addresses(), reachable(world))
            self.assert_moment(world)
        before = state_of(world.registry)
        full_collection(world)
        self.assertEqual(state_of(world.registry), before)

    def test_long_dealings(self):
        results, lone, pushes, words = 0, 0, 0, {}
        for seed in range(150):
            dealing = Dealing(seed)
            for _ in range(1000):
                dealing.step()
                self.assert_moment(dealing.world)
            self.assert_clients(dealing.world)
            ended = [client for client in dealing.world.clients if client.done]
            pulls = [client for client in ended if isinstance(client, Puller)]
            results += len([client for client in pulls if client.result()])
            lone += len([client for client in pulls if client.root and not client.result()])
            pushes += len(ended) - len(pulls)
            for word, many in dealing.world.words.items():
                words[word] = words.get(word, 0) + many
            self.assert_calm(dealing.world, dealing.chance.randrange(12))
            self.assert_collection(dealing.world)
        # The dealings are worth something only if many clients end in them and all replies occur.
        self.assertGreater(results, 30)
        self.assertGreater(lone, 10)
        self.assertGreater(pushes, 100)
        for word in (
            "claim", "kept", "lacks", "upload", "have", "gone", "wrong", "malformed", "named", "closed", "leads",
            "nothing", "piece", "lapsed",
        ):
            self.assertGreater(words.get(word, 0), 10, word)

    def test_dealings_that_go_on_behind_a_calm_while(self):
        for seed in range(30):
            dealing = Dealing(seed + 1000)
            for most_clients in (4, 8, 12):
                dealing.most_clients = most_clients
                for _ in range(300):
                    dealing.step()
                    self.assert_moment(dealing.world)
                self.assert_calm(dealing.world, dealing.chance.randrange(12))
                if dealing.chance.randrange(2):
                    self.assert_collection(dealing.world)

    def test_more_clients_than_the_wire_holds_letters(self):
        for seed in range(4):
            dealing = Dealing(seed + 2000)
            for _ in range(58 + 5 * seed):
                dealing.add_client(dealing.chance.choice((Pusher, Pusher, Puller)))
            for _ in range(1500):
                dealing.step()
            self.assert_clients(dealing.world)
            self.assert_calm(dealing.world, dealing.chance.randrange(30))
            self.assert_collection(dealing.world)

    def test_pulls_while_pushes_and_the_collector_replace_what_is_behind_their_name(self):
        again = 0
        for seed in range(25):
            chance = random.Random(seed)
            world = NotingWorld()
            images = [[f"{at} of {seed}", "shared", "x" * at] for at in range(5)]
            for texts in images:
                world.add_client(Pusher(texts, "app", platform=chance.choice((None, "mill"))))
            while not world.clients[0].done:
                for event in (("send", 0), ("deliver", 0), ("deliver", 0)):
                    world.do(event)
            for _ in range(6):
                world.add_client(Puller("app", platform="mill"))
            for _ in range(400):
                for event in (("send", chance.randrange(11)), ("deliver", 0), ("deliver", 0), *[("collect",)] * 6):
                    world.do(event)
                    self.assert_moment(world)
            self.assert_calm(world, 30)
            for client in world.clients[5:]:
                self.assertIn(client.result()[1], images)
            again += len([index for index in range(5, 11) if world.looked[index] > 0])
            self.assert_collection(world)
        # In some of the pulls something was lacking, so that they looked for their names again.
        self.assertGreater(again, 5)


if __name__ == "__main__":
    unittest.main()
