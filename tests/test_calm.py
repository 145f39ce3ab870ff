"""Points CA1, CA2 and CA3: calm rounds, their costs, and full collections."""

import copy
import unittest

from blobs import blobs_of, bundle_of, image_address, image_of, layer_address, state_of, upload
from layerwharf.calm import calm_bound, calm_round, full_collection, run_calm
from layerwharf.letters import MOST_LETTERS
from layerwharf.puller import Puller
from layerwharf.pusher import Pusher
from layerwharf.world import World


class LoggingWorld(World):
    """A world that notes its events."""

    def __init__(self):
        super().__init__()
        self.events = []

    def do(self, event):
        self.events.append(event)
        super().do(event)


def world_of(*clients):
    world = LoggingWorld()
    for client in clients:
        world.add_client(client)
    return world


def sends(first, last):
    return [("send", index) for index in range(first, last + 1)]


def delivers(many):
    """The requests and their replies."""
    return [("deliver", 0)] * (2 * many)


class RoundTest(unittest.TestCase):
    def assert_round(self, world, steps, events):
        before = len(world.events)
        self.assertIsNone(calm_round(world, steps))
        self.assertEqual(world.events[before:], events)
        self.assertEqual(world.wire.letters, [])
        self.assertEqual(world.moment, len(world.events))

    def pullers(self, many):
        return world_of(*[Puller(f"app {at}") for at in range(many)])

    def test_no_client(self):
        self.assert_round(world_of(), 0, [])
        self.assert_round(world_of(), 3, [("collect",)] * 3)

    def test_one_client_and_a_few(self):
        for many in (1, 2, 5):
            for steps in (0, 1, 4):
                world = self.pullers(many)
                self.assert_round(world, steps, sends(0, many - 1) + delivers(many) + [("collect",)] * steps)
                self.assertTrue(all(client.done for client in world.clients))

    def test_the_letters_of_the_wire_are_delivered_first(self):
        world = self.pullers(2)
        for letter in ((0, 0, ("look", "app 0")), (1, 7, ("nothing", "app 1")), (1, 0, ("nothing", "app 1"))):
            world.wire.send(letter)
        first = [("deliver", 0)] * 4
        # By then both have ended, so that neither of them sends a letter.
        self.assert_round(world, 1, first + sends(0, 1) + [("collect",)])
        self.assertEqual(world.ends, [4, 3])

    def test_a_full_wire_is_emptied_first(self):
        world = self.pullers(1)
        while world.wire.send((0, 9, ("open",))):
            pass
        self.assert_round(world, 0, delivers(MOST_LETTERS) + sends(0, 0) + delivers(1))
        self.assertEqual(world.registry.claims.numbers(), list(range(1, MOST_LETTERS + 1)))

    def test_a_client_that_has_ended_sends_nothing(self):
        world = self.pullers(3)
        for event in (("send", 1), ("deliver", 0), ("deliver", 0)):
            world.do(event)
        self.assert_round(world, 0, sends(0, 2) + delivers(2))

    def test_one_client_less_than_the_most_letters(self):
        self.assert_round(self.pullers(59), 1, sends(0, 58) + delivers(59) + [("collect",)])

    def test_as_many_clients_as_the_most_letters(self):
        events = sends(0, 58) + delivers(59) + sends(59, 59) + delivers(1) + [("collect",)]
        self.assert_round(self.pullers(60), 1, events)

    def test_more_clients_than_the_most_letters(self):
        self.assert_round(self.pullers(61), 0, sends(0, 58) + delivers(59) + sends(59, 60) + delivers(2))
        head = sends(0, 58) + delivers(59) + sends(59, 118) + delivers(60)
        self.assert_round(self.pullers(119), 0, head)
        self.assert_round(self.pullers(120), 2, head + sends(119, 119) + delivers(1) + [("collect",)] * 2)
        self.assert_round(self.pullers(130), 0, head + sends(119, 129) + delivers(11))
        tail = sends(119, 178) + delivers(60) + sends(179, 180) + delivers(2)
        self.assert_round(self.pullers(181), 0, head + tail)

    def test_each_client_gets_its_reply_however_many_there_are(self):
        for many in (59, 60, 61, 119, 120, 121, 200):
            world = world_of(*[Pusher([], f"app {at}") for at in range(many)])
            for number in range(1, 4):
                calm_round(world, 0)
                self.assertEqual([client.number for client in world.clients], [number] * many)
            calm_round(world, 0)
            self.assertEqual([client.done for client in world.clients], [True] * many)
            self.assertEqual(len(world.registry.names), many)


class BoundTest(unittest.TestCase):
    def test_no_client_and_pullers_alone(self):
        for many in (0, 1, 2, 7, 100):
            self.assertEqual(calm_bound(world_of(*[Puller("app") for _ in range(many)])), 2 + (4 + many) * 2)

    def test_one_pusher(self):
        image = {0: 6, 1: 23, 2: 40, 3: 57}
        for texts, push, pull in (
            # The push; the pull of the layers and the image, each 1 and a quarter of the length.
            ([], 7, 2 + 1 + image[0] // 4), ([""], 7 + 4, 2 + 1 + 1 + image[1] // 4),
            (["abc"], 7 + 4, 2 + 1 + 1 + image[1] // 4), (["abcd"], 7 + 5, 2 + 2 + 1 + image[1] // 4),
            (["a" * 7, "b" * 8], 7 + 5 + 6, 2 + 2 + 3 + 1 + image[2] // 4),
            (["x" * 401], 7 + 104, 2 + 101 + 1 + image[1] // 4), (["a", "a", "a"], 7 + 12, 2 + 3 + 1 + image[3] // 4),
        ):
            self.assertEqual(calm_bound(world_of(Pusher(texts, "app"))), 2 + 5 * max(push, pull))
            # A bundle has a line with the platform and the address behind its first one.
            pull += 1 + (7 + len("mill") + 18) // 4
            self.assertEqual(calm_bound(world_of(Pusher(texts, "app", platform="mill"))), 2 + 5 * max(push, pull))

    def test_some_bounds_in_numbers(self):
        self.assertEqual(calm_bound(world_of(Pusher([], "app"))), 37)
        self.assertEqual(calm_bound(world_of(Pusher([], "app", platform="mill"))), 62)
        self.assertEqual(calm_bound(world_of(Pusher(["hello"], "app"))), 62)
        self.assertEqual(calm_bound(world_of(Pusher(["hello"], "app", platform="mill"))), 92)
        self.assertEqual(calm_bound(world_of(Pusher(["hello"] * 3, "app"), Puller("app"))), 2 + 6 * 23)

    def test_the_greatest_cost_counts_and_each_client(self):
        clients = [Pusher([], "a"), Pusher(["hello"], "b"), Puller("a"), Pusher([""], "c"), Puller("b")]
        self.assertEqual(calm_bound(world_of(*clients)), 2 + 9 * 12)
        self.assertEqual(calm_bound(world_of(*reversed(clients))), 2 + 9 * 12)

    def test_it_changes_nothing_and_counts_clients_that_have_ended(self):
        world = world_of(Pusher(["hello"], "app"), Puller("app"))
        self.assertEqual(calm_bound(world), 2 + 6 * 12)
        self.assertEqual((world.events, world.clients[0].number), ([], 0))
        run_calm(world, 1)
        self.assertEqual(calm_bound(world), 2 + 6 * 12)


class RunTest(unittest.TestCase):
    def test_the_example_of_the_interface(self):
        world = World()
        self.assertEqual(world.add_client(Pusher(["hello"], "app")), 0)
        self.assertEqual((run_calm(world, 1), full_collection(world), sorted(world.registry.names)), (9, 2, ["app"]))

    def test_nobody_has_to_end(self):
        world = world_of()
        self.assertEqual(run_calm(world, 5), 0)
        world = world_of(Puller("app"))
        self.assertEqual(run_calm(world, 1), 1)
        events = list(world.events)
        self.assertEqual((run_calm(world, 1), world.events), (0, events))

    def test_as_many_rounds_as_the_longest_client_has_requests(self):
        self.assertEqual(run_calm(world_of(Pusher([], "app"), Puller("other")), 2), 4)
        self.assertEqual(run_calm(world_of(Puller("other"), Pusher([], "app", platform="mill")), 0), 5)
        self.assertEqual(run_calm(world_of(Pusher(["hello", ""], "app")), 1), 12)

    def test_a_pull_behind_a_push(self):
        for layers, platform in ((["hello", "", "x" * 30], None), (["hello", "hello"], "mill"), ([], "mill")):
            world = world_of(Pusher(layers, "app", platform=platform))
            run_calm(world, 3)
            world.add_client(Puller("app", platform=platform))
            self.assertLessEqual(run_calm(world, 3), calm_bound(world))
            self.assertEqual(world.clients[1].result(), (world.clients[0].address(), layers))

    def test_a_client_that_never_ends(self):
        for client in (Pusher([str(at) for at in range(51)], "app"), Pusher([], "app", platform="Mill")):
            for steps in (0, 2):
                world = world_of(copy.deepcopy(client), Puller("other"))
                self.assertIsNone(run_calm(world, steps))
                bound = calm_bound(world)
                self.assertEqual(world.events.count(("send", 0)), bound)
                self.assertEqual(world.events.count(("collect",)), bound * steps)
                self.assertEqual([client.done for client in world.clients], [False, True])

    def test_a_client_that_needs_just_as_many_rounds_as_the_bound_tells(self):
        self.assertEqual(calm_bound(world_of(Puller("app"))), 12)
        for late in (1, 11, 12, 13):
            world = world_of(LatePuller("app", late))
            self.assertEqual(run_calm(world, 0), late if late <= 12 else None)
            self.assertEqual(world.events.count(("send", 0)), min(late, 12))


class LatePuller(Puller):
    """A puller that does not take its first replies."""

    def __init__(self, name, late):
        super().__init__(name)
        self.late = late

    def take(self, reply):
        self.late -= 1
        return self.late == 0 and super().take(reply)


class FullCollectionTest(unittest.TestCase):
    def world(self):
        """Names, claims and uploads, and blobs that nobody needs."""
        world = world_of(Pusher(["a", "b"], "app", platform="mill"), Pusher(["b", "c"], "other"), Pusher(["d"], "app"))
        for event in [("send", 2)] + [("deliver", 0)] * 2:
            world.do(event)
        for index in (0, 1):
            while not world.clients[index].done:
                for event in (("send", index), ("deliver", 0), ("deliver", 0)):
                    world.do(event)
        registry = world.registry
        upload(registry, 1, "a layer that only a claim needs")
        registry.store.keep("layer", "a layer that nobody needs")
        self.assertEqual((registry.answer(("start", 1)), registry.claims.numbers()), (("upload", 5), [1]))
        return world

    def expected(self):
        """What the names need."""
        blobs = [("layer", text) for text in "abc"]
        blobs += [("image", image_of("a", "b")), ("image", image_of("b", "c")), ("bundle", bundle_of(mill=("a", "b")))]
        return blobs

    def test_exactly_what_the_names_need_is_left_whatever_round_is_under_way(self):
        for steps in range(25):
            world = self.world()
            for _ in range(steps):
                world.registry.collect()
            before = (world.moment, list(world.events), copy.deepcopy(world.trail), dict(world.registry.names))
            self.assertEqual(full_collection(world), 6)
            self.assertEqual(sorted(blobs_of(world.registry).values()), sorted(self.expected()))
            self.assertEqual((world.registry.claims.numbers(), world.registry.claims.pinned()), ([], []))
            self.assertEqual(world.registry.collector.phase, "idle")
            # The steps of the collector are no events.
            self.assertEqual((world.moment, world.events, world.trail, world.registry.names), before)

    def test_a_second_one_changes_nothing(self):
        for steps in (0, 3, 12):
            world = self.world()
            for _ in range(steps):
                world.registry.collect()
            full_collection(world)
            before = state_of(world.registry)
            self.assertEqual(full_collection(world), 6)
            self.assertEqual(state_of(world.registry), before)

    def test_what_a_round_that_is_under_way_marked_goes_all_the_same(self):
        world = self.world()
        for _ in range(8):
            world.registry.collect()
        world.do(("drop", "app"))
        self.assertEqual(full_collection(world), 3)
        self.assertEqual(world.registry.store.addresses(),
                         sorted([layer_address("b"), layer_address("c"), image_address("b", "c")]))
        world.do(("drop", "other"))
        self.assertEqual((full_collection(world), world.registry.store.addresses()), (0, []))

    def test_an_empty_world(self):
        self.assertEqual(full_collection(World()), 0)

    def test_uploads_stand(self):
        world = self.world()
        full_collection(world)
        self.assertEqual(world.registry.answer(("part", 5, 0, "a")), ("have", 5, 1))

    def test_a_push_whose_claim_has_lapsed_ends_all_the_same(self):
        world = self.world()
        full_collection(world)
        self.assertIsNotNone(run_calm(world, 2))
        self.assertEqual(world.registry.names["app"], image_address("d"))


if __name__ == "__main__":
    unittest.main()
