"""Points JU1 and JU2: the moments that clients show, and what else is said of a world."""

import unittest

from blobs import bundle_address, bundle_of, image_address, image_of, layer_address, upload
from layerwharf.calm import run_calm
from layerwharf.images import image_text
from layerwharf.judge import names_are_whole, reachable, shown_moment
from layerwharf.puller import Puller
from layerwharf.pusher import Pusher
from layerwharf.world import World


class JudgeTest(unittest.TestCase):
    def setUp(self):
        self.world = World()

    def do(self, *events):
        for event in events:
            self.world.do(event)

    def add(self, client):
        return self.world.add_client(client)

    def ask(self, index):
        """A request of a client, and the reply to it."""
        self.do(("send", index), ("deliver", 0), ("deliver", 0))

    def finish(self, index):
        while not self.world.clients[index].done:
            self.ask(index)

    def push(self, texts, name, **more):
        """A whole push; returns the moment from which on its name leads to it."""
        index = self.add(Pusher(texts, name, **more))
        self.finish(index)
        # The last request but one is answered by the second of the six last events.
        return self.world.moment - 4


class ShownMomentTest(JudgeTest):
    def test_a_client_that_has_not_ended_shows_none(self):
        for client in (Puller("app"), Pusher([], "app"), Puller("other", platform="mill")):
            index = self.add(client)
            self.assertIsNone(shown_moment(self.world, index))
            self.ask(index)
            if not client.done:
                self.assertIsNone(shown_moment(self.world, index))
        self.ask(1)
        self.ask(1)
        # Its name leads to its image by now; the push has not ended, though.
        self.assertEqual(self.world.registry.names, {"app": image_address()})
        self.assertIsNone(shown_moment(self.world, 1))
        self.ask(1)
        self.assertIsNotNone(shown_moment(self.world, 1))

    def test_a_push_shows_the_moment_at_which_its_name_came_to_lead_to_it(self):
        for layers, platform in (([], None), (["abcdef"], None), (["a", "", "a"], "mill")):
            self.do(("collect",))
            moment = self.push(layers, f"app {platform} {layers}", platform=platform)
            index = len(self.world.clients) - 1
            self.assertEqual(shown_moment(self.world, index), moment)
            self.assertLess(self.world.begins[index], moment)

    def test_a_push_of_what_its_name_led_to_when_it_began(self):
        self.push(["a"], "app")
        self.do(("collect",))
        begin = self.world.moment
        self.push(["a"], "app")
        self.assertEqual((self.world.begins[1], shown_moment(self.world, 1)), (begin, begin))

    def test_a_push_of_what_its_name_led_to_before_and_not_when_it_began(self):
        first = self.push(["a"], "app")
        self.push(["b"], "app")
        third = self.push(["a"], "app")
        self.assertEqual([shown_moment(self.world, index) for index in (0, 2)], [first, third])

    def test_a_push_of_a_bundle_is_not_shown_by_its_image(self):
        self.push(["a"], "app")
        moment = self.push(["a"], "app", platform="mill")
        self.assertEqual(shown_moment(self.world, 1), moment)
        self.assertEqual(self.world.trail[moment], {"app": bundle_address(mill=("a",))})
        self.assertEqual(self.world.trail[moment - 1], {"app": image_address("a")})

    def test_a_pull_of_what_its_name_led_to_when_it_began(self):
        self.push(["a"], "app")
        self.do(("collect",), ("collect",))
        begin = self.world.moment
        index = self.add(Puller("app"))
        self.finish(index)
        self.assertEqual((shown_moment(self.world, index), self.world.begins[index]), (begin, begin))

    def test_a_pull_of_what_its_name_came_to_lead_to_later(self):
        self.push(["a"], "app")
        index = self.add(Puller("app"))
        self.do(("collect",))
        moment = self.push(["b"], "app")
        self.finish(index)
        self.assertEqual(shown_moment(self.world, index), moment)
        self.assertEqual(self.world.clients[index].result(), (image_address("b"), ["b"]))

    def test_a_pull_of_what_its_name_does_not_lead_to_any_more(self):
        self.push(["a"], "app")
        index = self.add(Puller("app"))
        self.ask(index)
        begin = self.world.begins[index]
        self.push(["b"], "app")
        self.finish(index)
        self.assertEqual(shown_moment(self.world, index), begin)
        self.assertEqual(self.world.trail[begin], {"app": image_address("a")})
        self.assertEqual(self.world.clients[index].result(), (image_address("a"), ["a"]))

    def test_a_name_that_leads_nowhere(self):
        self.push([], "other")
        begin = self.world.moment
        index = self.add(Puller("app"))
        self.do(("collect",))
        self.finish(index)
        self.assertEqual(shown_moment(self.world, index), begin)

    def test_a_name_that_led_nowhere_only_for_a_while(self):
        self.push(["a"], "app")
        index = self.add(Puller("app"))
        self.do(("send", index), ("collect",), ("drop", "app"))
        dropped = self.world.moment
        self.do(("deliver", 0))
        self.push(["a"], "app")
        self.do(*[("deliver", 0)] * 2)
        self.assertTrue(self.world.clients[index].done)
        self.assertIsNone(self.world.clients[index].root)
        self.assertEqual(shown_moment(self.world, index), dropped)

    def test_a_pull_without_a_result_shows_its_root(self):
        self.push(["a"], "app", platform="mill")
        for platform in (None, "quay"):
            begin = self.world.moment
            index = self.add(Puller("app", platform=platform))
            self.finish(index)
            self.assertIsNone(self.world.clients[index].result())
            self.assertEqual(shown_moment(self.world, index), begin)

    def test_the_end_is_included_and_what_is_behind_it_is_not(self):
        for late in (0, 1):
            world = World()
            world.add_client(Puller("app"))
            for event in [("send", 0), ("deliver", 0), ("deliver", 0)] + [("collect",)] * 3:
                world.do(event)
            self.assertEqual(world.ends, [3])
            # As if its name had led to its root from the end, or from the moment behind the end, alone.
            world.clients[0].root = image_address()
            for moment in range(3 + late, 7):
                world.trail[moment]["app"] = image_address()
            self.assertEqual(shown_moment(world, 0), None if late else 3)

    def test_the_beginning_is_included_and_what_is_before_it_is_not(self):
        for early in (0, 1):
            world = World()
            world.do(("collect",))
            world.add_client(Puller("app"))
            for event in [("send", 0), ("deliver", 0), ("deliver", 0)]:
                world.do(event)
            world.clients[0].root = image_address()
            world.trail[1 - early]["app"] = image_address()
            self.assertEqual(shown_moment(world, 0), None if early else 1)

    def test_another_name_shows_nothing(self):
        world = World()
        world.add_client(Puller("app"))
        world.registry.answer(("open",))
        world.registry.answer(("put", 1, "image", "image\n"))
        for event in [("send", 0), ("deliver", 0), ("deliver", 0)]:
            world.do(event)
        world.clients[0].root = image_address()
        for names in world.trail:
            names["other"] = image_address()
        self.assertIsNone(shown_moment(world, 0))


class NamesAreWholeTest(JudgeTest):
    def setUp(self):
        super().setUp()
        self.registry = self.world.registry
        self.registry.answer(("open",))
        upload(self.registry, 1, "a")
        self.registry.answer(("put", 1, "image", image_of("a")))
        self.registry.answer(("put", 1, "bundle", bundle_of(mill=("a",))))

    def test_a_world_without_names(self):
        self.assertIs(names_are_whole(World()), True)
        self.assertIs(names_are_whole(self.world), True)

    def test_names_that_lead_to_whole_images_and_bundles(self):
        self.registry.answer(("name", 1, "app", image_address("a")))
        self.assertIs(names_are_whole(self.world), True)
        self.registry.answer(("name", 1, "other", bundle_address(mill=("a",))))
        self.assertIs(names_are_whole(self.world), True)

    def test_names_that_lead_elsewhere(self):
        broken = self.registry.store.keep("image", image_text([layer_address("nobody keeps this")]))
        for wrong in (layer_address("a"), layer_address("nobody keeps this"), "", broken, image_address()):
            self.registry.names.clear()
            self.registry.names["wrong"] = wrong
            self.assertIs(names_are_whole(self.world), False)
            self.registry.names["app"] = image_address("a")
            self.assertIs(names_are_whole(self.world), False)
            del self.registry.names["wrong"]
            self.assertIs(names_are_whole(self.world), True)
            self.registry.names["wrong"] = wrong
            self.assertIs(names_are_whole(self.world), False)

    def test_names_of_which_something_is_gone(self):
        for lost in (layer_address("a"), image_address("a"), bundle_address(mill=("a",))):
            self.setUp()
            self.registry.answer(("name", 1, "app", bundle_address(mill=("a",))))
            self.registry.store.remove_blob(lost)
            self.assertIs(names_are_whole(self.world), False)


class ReachableTest(JudgeTest):
    def test_a_world_without_names(self):
        self.assertEqual(reachable(World()), [])
        self.world.registry.store.keep("layer", "a")
        self.assertEqual(reachable(self.world), [])

    def test_the_closures_in_ascending_order_each_address_once(self):
        self.push(["a", "b", "a"], "app")
        first = [layer_address("a"), layer_address("b"), image_address("a", "b", "a")]
        self.assertEqual(reachable(self.world), sorted(first))
        self.push(["b", "c"], "other", platform="mill")
        second = [layer_address("c"), image_address("b", "c"), bundle_address(mill=("b", "c"))]
        self.assertEqual(reachable(self.world), sorted(first + second))
        self.push(["b", "c"], "third")
        self.assertEqual(reachable(self.world), sorted(first + second))
        self.world.registry.store.keep("layer", "nobody needs this")
        self.assertEqual(reachable(self.world), sorted(first + second))
        self.do(("drop", "app"))
        self.assertEqual(reachable(self.world), sorted([layer_address("b"), *second]))
        self.do(("drop", "other"))
        self.assertEqual(reachable(self.world), sorted([layer_address("b"), *second[:2]]))

    def test_what_claims_pin_is_not_reachable(self):
        self.world.registry.answer(("open",))
        upload(self.world.registry, 1, "a")
        self.assertEqual(reachable(self.world), [])

    def test_the_list_is_not_shared(self):
        self.push([], "app")
        reachable(self.world).clear()
        self.assertEqual(reachable(self.world), [image_address()])
        self.assertIs(type(reachable(self.world)), list)


class AskingTest(JudgeTest):
    """Point A2: asking changes nothing."""

    def test_nothing_changes(self):
        self.push(["a"], "app")
        self.add(Puller("app"))
        run_calm(self.world, 1)
        before = (self.world.moment, list(self.world.trail), dict(self.world.registry.names),
                  self.world.registry.store.addresses())
        for index in (0, 1):
            shown_moment(self.world, index)
        names_are_whole(self.world)
        reachable(self.world)
        self.assertEqual(before, (self.world.moment, self.world.trail, self.world.registry.names,
                                  self.world.registry.store.addresses()))


if __name__ == "__main__":
    unittest.main()
