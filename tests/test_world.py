"""Points WO1, WO2 and WO3: the world, its events, its moments, and the beginnings and ends of its clients."""

import copy
import unittest

from blobs import image_address, layer_address, state_of, upload
from layerwharf.errors import Misused, Refused
from layerwharf.letters import MOST_LETTERS, Wire
from layerwharf.puller import Puller
from layerwharf.pusher import Pusher
from layerwharf.registry import Registry
from layerwharf.world import World

EMPTY = image_address()
LETTER_EVENTS = [
    ("deliver", 0), ("deliver", 7), ("double", 0), ("double", 7), ("lose", 0), ("lose", 7), ("spoil", 0, 0, "x"),
    ("spoil", 7, 9, "x"),
]


def seen(world):
    """All that can be seen of a world, its moments excepted."""
    clients = [(client.number, client.done, client.request()) for client in world.clients]
    return state_of(world.registry), list(world.wire.letters), clients


class WorldTest(unittest.TestCase):
    def setUp(self):
        self.world = World()

    def add(self, *clients):
        return [self.world.add_client(client) for client in clients]

    def do(self, *events):
        """Each event leads to the next moment."""
        for event in events:
            before = self.world.moment
            self.assertIsNone(self.world.do(event))
            self.assertEqual((self.world.moment, len(self.world.trail)), (before + 1, before + 2))
            self.assertEqual(self.world.trail[-1], self.world.registry.names)

    def fill(self, *letters):
        for letter in letters:
            self.world.wire.send(letter)

    def fill_up(self, letter=(0, 99, ("look", "nobody"))):
        while self.world.wire.send(letter):
            pass

    def letters(self):
        return self.world.wire.letters

    def assert_nothing_but_a_moment(self, *events):
        for event in events:
            before = copy.deepcopy(seen(self.world))
            self.do(event)
            self.assertEqual(seen(self.world), before)

    def finish(self, index):
        """Let a client end, with no letter left."""
        while not self.world.clients[index].done:
            self.do(("send", index), ("deliver", 0), ("deliver", 0))


class NewWorldTest(WorldTest):
    def test_the_example_of_the_interface(self):
        world = World()
        self.assertEqual(world.add_client(Puller("app")), 0)
        for event in [("send", 0), ("deliver", 0), ("deliver", 0)]:
            self.assertIsNone(world.do(event))
        self.assertEqual((world.clients[0].done, world.ends, world.trail), (True, [3], [{}, {}, {}, {}]))

    def test_the_fields(self):
        self.assertIsInstance(self.world.registry, Registry)
        self.assertIsInstance(self.world.wire, Wire)
        self.assertEqual((self.world.clients, self.world.begins, self.world.ends), ([], [], []))
        self.assertEqual((self.world.moment, self.world.trail), (0, [{}]))

    def test_two_worlds_have_nothing_in_common(self):
        self.add(Pusher([], "app"))
        self.finish(0)
        other = World()
        self.assertEqual((seen(other), other.begins, other.ends), (seen(World()), [], []))
        self.assertEqual((other.moment, other.trail), (0, [{}]))


class SendTest(WorldTest):
    def test_the_letter_of_a_client(self):
        self.add(Puller("app", number=5), Pusher([], "app", number=8))
        self.do(("send", 0), ("send", 1))
        self.assertEqual(self.letters(), [(0, 5, ("look", "app")), (1, 8, ("open",))])

    def test_it_is_sent_as_often_as_the_event_happens(self):
        self.add(Puller("app"))
        self.do(*[("send", 0)] * 3)
        self.assertEqual(self.letters(), [(0, 0, ("look", "app"))] * 3)

    def test_the_index_is_counted_modulo_the_number_of_clients(self):
        self.add(Puller("a"), Puller("b"), Puller("c"))
        self.do(("send", 3), ("send", 5), ("send", 3 * 10 ** 20 + 1))
        self.assertEqual(self.letters(), [(0, 0, ("look", "a")), (2, 0, ("look", "c")), (1, 0, ("look", "b"))])

    def test_without_a_client(self):
        self.assert_nothing_but_a_moment(("send", 0), ("send", 5))

    def test_of_a_client_that_has_ended(self):
        self.add(Puller("app"), Puller("other"))
        self.finish(0)
        self.assert_nothing_but_a_moment(("send", 0), ("send", 2))
        self.do(("send", 1))
        self.assertEqual(self.letters(), [(1, 0, ("look", "other"))])

    def test_to_a_full_wire(self):
        self.add(Puller("app"))
        self.fill_up()
        self.assert_nothing_but_a_moment(("send", 0))


class LetterTest(WorldTest):
    def setUp(self):
        super().setUp()
        self.add(Puller("app"), Pusher(["abc"], "app"))

    def test_without_a_letter(self):
        self.assert_nothing_but_a_moment(*LETTER_EVENTS)
        self.world = World()
        self.assert_nothing_but_a_moment(*LETTER_EVENTS)

    def test_a_request_that_is_delivered_is_answered_at_once(self):
        self.do(("send", 1), ("deliver", 0))
        self.assertEqual(self.letters(), [(1, 0, ("claim", 1))])
        self.assertEqual(self.world.registry.claims.numbers(), [1])
        self.assertEqual(self.world.clients[1].request(), ("open",))

    def test_the_answer_goes_to_the_end(self):
        self.do(("send", 1), ("send", 0), ("send", 1), ("deliver", 1))
        self.assertEqual(self.letters(), [(1, 0, ("open",)), (1, 0, ("open",)), (0, 0, ("nothing", "app"))])
        self.do(("deliver", 0))
        self.assertEqual(self.letters(), [(1, 0, ("open",)), (0, 0, ("nothing", "app")), (1, 0, ("claim", 1))])

    def test_each_kind_of_request_is_answered(self):
        layer = layer_address("a")
        requests = [
            ("open",), ("has", 1, layer), ("start", 1), ("part", 1, 0, "a"), ("finish", 1, 1, "layer", layer),
            ("put", 1, "image", "image\n"), ("name", 1, "app", EMPTY), ("look", "app"), ("get", layer, 0, 4),
            ("drop", "app"), ("close", 1), ("start", 1),
        ]
        replies = [
            ("claim", 1), ("lacks", layer), ("upload", 1), ("have", 1, 1), ("kept", layer), ("kept", EMPTY),
            ("named", "app", EMPTY), ("leads", "app", EMPTY), ("piece", layer, "layer", 0, "a", 1), ("dropped", "app"),
            ("closed", 1), ("lapsed", 1),
        ]
        for at, request in enumerate(requests):
            self.fill((0, 50 + at, request))
            self.do(("deliver", at))
        self.assertEqual(self.letters(), [(0, 50 + at, reply) for at, reply in enumerate(replies)])

    def test_a_reply_that_is_delivered_is_handed_to_its_client(self):
        self.do(("send", 1), ("deliver", 0), ("deliver", 0))
        self.assertEqual((self.letters(), self.world.clients[1].number), ([], 1))
        self.assertEqual(self.world.clients[1].request(), ("has", 1, layer_address("abc")))

    def test_a_reply_with_another_number_is_handed_to_nobody(self):
        for number in (1, 2, 99):
            self.fill((1, number, ("claim", 7)))
            self.do(("deliver", 0))
            self.assertEqual((self.letters(), self.world.clients[1].request()), ([], ("open",)))
        self.do(("send", 1), ("double", 0), ("deliver", 0), ("deliver", 0), ("deliver", 0))
        request = self.world.clients[1].request()
        self.do(("deliver", 0))
        # The second claim came with the number of a request that was not the current one any more.
        self.assertEqual(self.world.registry.claims.numbers(), [1, 2])
        self.assertEqual((self.world.clients[1].request(), request[1]), (request, 1))

    def test_a_reply_that_does_not_fit(self):
        self.fill((1, 0, ("nothing", "app")), (0, 0, ("claim", 1)))
        self.do(("deliver", 0), ("deliver", 0))
        self.assertEqual([client.number for client in self.world.clients], [0, 0])

    def test_a_reply_to_a_client_that_has_ended(self):
        self.do(("send", 0), ("deliver", 0), ("double", 0), ("double", 0), ("deliver", 0))
        self.assertEqual((self.world.clients[0].done, self.world.ends), (True, [5, None]))
        before = vars(self.world.clients[0]).copy()
        self.do(("deliver", 0), ("deliver", 0))
        self.assertEqual((vars(self.world.clients[0]), self.letters(), self.world.ends), (before, [], [5, None]))

    def test_a_reply_to_a_client_that_is_not_there(self):
        self.world = World()
        self.fill((0, 0, ("drop", "app")))
        self.do(("deliver", 0), ("deliver", 0))
        self.assertEqual((self.letters(), self.world.clients), ([], []))

    def test_the_index_is_counted_modulo_the_number_of_letters(self):
        letters = [(0, 9, ("look", name)) for name in ("a", "b", "c")]
        for index, at in ((0, 0), (2, 2), (3, 0), (5, 2), (3 * 10 ** 20 + 1, 1)):
            left = letters[:at] + letters[at + 1:]
            for event, expected in (
                (("deliver", index), left + [(0, 9, ("nothing", letters[at][2][1]))]),
                (("double", index), letters + [letters[at]]), (("lose", index), left),
            ):
                self.world = World()
                self.fill(*letters)
                self.do(event)
                self.assertEqual(self.letters(), expected)

    def test_spoiling(self):
        letters = [(0, 9, ("part", 1, 0, "abc")), (0, 9, ("look", "app")), (1, 9, ("put", 1, "image", "image\n"))]
        for event, at, body in (
            (("spoil", 0, 1, "x"), 0, ("part", 1, 0, "axc")), (("spoil", 3, 5, "x"), 0, ("part", 1, 0, "abx")),
            (("spoil", 2, 6, "x"), 2, ("put", 1, "image", "xmage\n")), (("spoil", 1, 0, "x"), 1, ("look", "app")),
            (("spoil", 5, 0, "i"), 2, ("put", 1, "image", "image\n")),
        ):
            self.world = World()
            self.fill(*letters)
            self.do(event)
            expected = list(letters)
            expected[at] = (*letters[at][:2], body)
            self.assertEqual(self.letters(), expected)

    def test_a_full_wire(self):
        self.fill_up()
        self.assert_nothing_but_a_moment(("double", 0), ("double", 59), ("send", 1), ("spoil", 3, 0, "x"))
        # The request that is delivered leaves its place to its reply.
        self.do(("deliver", 0))
        self.assertEqual((len(self.letters()), self.letters()[-1]), (MOST_LETTERS, (0, 99, ("nothing", "nobody"))))
        self.do(("lose", 0), ("double", 0))
        self.assertEqual(len(self.letters()), MOST_LETTERS)
        self.do(("deliver", 58))
        self.assertEqual(len(self.letters()), MOST_LETTERS - 1)


class RegistryEventTest(WorldTest):
    def setUp(self):
        super().setUp()
        registry = self.world.registry
        registry.answer(("open",))
        registry.answer(("open",))
        registry.answer(("start", 1))
        upload(registry, 2, "a")
        registry.answer(("put", 1, "image", "image\n"))
        registry.answer(("name", 1, "app", EMPTY))

    def twin(self):
        return copy.deepcopy(self.world.registry)

    def test_fall(self):
        self.do(("collect",))
        twin = self.twin()
        twin.fall()
        self.do(("fall",))
        self.assertEqual(state_of(self.world.registry), state_of(twin))
        self.assertEqual(self.world.registry.collector.phase, "idle")
        self.assertEqual(self.world.registry.answer(("part", 1, 0, "a")), ("gone", 1))

    def test_collect(self):
        twin = self.twin()
        for _ in range(30):
            twin.collect()
            self.do(("collect",))
            self.assertEqual(state_of(self.world.registry), state_of(twin))

    def test_lapse(self):
        for claim, left in ((2, [1]), (2, [1]), (0, [1]), (99, [1]), (1, []), (1, [])):
            self.do(("lapse", claim))
            self.assertEqual(self.world.registry.claims.numbers(), left)

    def test_drop(self):
        for name, left in (("other", {"app": EMPTY}), ("", {"app": EMPTY}), ("app", {}), ("app", {})):
            self.do(("drop", name))
            self.assertEqual(self.world.registry.names, left)

    def test_they_touch_no_letter_and_no_client(self):
        self.add(Puller("app"), Pusher([], "other"))
        self.do(("send", 0), ("send", 1))
        before = seen(self.world)[1:]
        self.do(("fall",), ("collect",), ("lapse", 1), ("drop", "app"), ("collect",))
        self.assertEqual(seen(self.world)[1:], before)


class MisusedTest(WorldTest):
    def test_a_word_that_is_none_of_an_event(self):
        self.add(Puller("app"), Pusher(["a"], "app"))
        self.do(("send", 0), ("send", 1), ("deliver", 0))
        for word in (
            "", "sent", "Send", "send ", "open", "look", "claim", "name", "collector", "lapsed", "dropped", "fal",
        ):
            for event in ((word,), (word, 0), (word, 0, 0, "x")):
                before = copy.deepcopy((seen(self.world), self.world.moment, self.world.trail, self.world.ends))
                with self.assertRaises(Misused) as caught:
                    self.world.do(event)
                self.assertEqual(caught.exception.word, word)
                self.assertIsInstance(caught.exception, Refused)
                after = (seen(self.world), self.world.moment, self.world.trail, self.world.ends)
                self.assertEqual(after, before)


class MomentsTest(WorldTest):
    def test_the_trail_has_the_names_of_each_moment(self):
        self.add(Pusher([], "app"), Pusher(["a"], "app"), Pusher([], "other"))
        self.finish(0)
        first = self.world.moment
        self.finish(1)
        self.do(("drop", "app"))
        self.finish(2)
        self.assertEqual(len(self.world.trail), self.world.moment + 1)
        trail = self.world.trail
        # The third request, of four, is delivered by the eighth of twelve events.
        self.assertEqual(first, 12)
        self.assertEqual(trail[:8], [{}] * 8)
        self.assertEqual(trail[8:13], [{"app": EMPTY}] * 5)
        dropped = [names for names in trail[13:] if names.get("app") != EMPTY]
        self.assertEqual(dropped[0], {"app": image_address("a")})
        self.assertEqual(trail[-1], {"other": EMPTY})

    def test_the_trail_shares_nothing_with_the_names(self):
        self.add(Pusher([], "app"))
        self.finish(0)
        self.do(("drop", "app"))
        self.assertEqual((self.world.trail[-1], self.world.trail[-2]), ({}, {"app": EMPTY}))
        self.assertIsNot(self.world.trail[-1], self.world.registry.names)
        self.do(("collect",))
        self.assertIsNot(self.world.trail[-1], self.world.trail[-2])

    def test_clients_have_indexes_in_the_order_in_which_they_begin(self):
        clients = [Puller("app"), Pusher([], "app"), Puller("other")]
        self.assertEqual(self.add(*clients), [0, 1, 2])
        self.assertEqual(self.world.clients, clients)

    def test_a_client_begins_at_the_moment_at_which_it_is_added(self):
        self.add(Puller("app"))
        self.do(("collect",), ("collect",))
        self.add(Puller("app"), Puller("app"))
        self.do(("fall",))
        self.add(Puller("app"))
        self.assertEqual((self.world.begins, self.world.ends), ([0, 2, 2, 3], [None] * 4))

    def test_adding_a_client_is_no_event(self):
        self.add(Puller("app"), Puller("app"))
        self.assertEqual((self.world.moment, self.world.trail, self.letters()), (0, [{}], []))

    def test_a_client_ends_at_the_moment_to_which_the_event_leads_at_which_it_has_ended(self):
        self.add(Puller("app"), Pusher([], "app"), Puller("app"))
        self.do(("send", 0), ("send", 2), ("deliver", 0), ("deliver", 0))
        self.assertEqual(self.world.ends, [None, None, None])
        self.do(("deliver", 0))
        self.assertEqual((self.world.moment, self.world.ends), (5, [5, None, None]))
        self.do(("collect",), ("deliver", 0))
        self.assertEqual(self.world.ends, [5, None, 7])
        self.finish(1)
        self.assertEqual(self.world.ends, [5, self.world.moment, 7])
        self.do(("send", 0), ("collect",), ("fall",))
        self.assertEqual(self.world.ends, [5, self.world.moment - 3, 7])


if __name__ == "__main__":
    unittest.main()
