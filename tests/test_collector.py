"""Points CO1, CO2 and CO3: the rounds of the collector, shading, and what a round leaves."""

import random
import unittest

from layerwharf.addresses import address_of
from layerwharf.collector import Collector
from layerwharf.images import bundle_text, image_text
from layerwharf.store import Store

ABSENT = address_of("layer", "nobody keeps this")


class CollectorTest(unittest.TestCase):
    """A store with a bundle of two images, which share a layer, and two layers and an image that nobody needs."""

    def setUp(self):
        self.store = Store()
        self.a, self.b, self.c = [self.store.keep("layer", text) for text in ("a", "b", "c")]
        self.one = self.store.keep("image", image_text([self.b, self.a]))
        self.two = self.store.keep("image", image_text([self.a, self.c, self.a]))
        self.bundle = self.store.keep("bundle", bundle_text([("mill", self.one), ("wharf", self.two)]))
        self.kept = self.store.closure(self.bundle)
        self.loose = [self.store.keep("layer", text) for text in ("loose", "looser")]
        self.lost = self.store.keep("image", image_text([self.loose[0]]))
        self.collector = Collector(self.store)

    def steps(self, many, roots):
        return [self.collector.step(roots) for _ in range(many)]

    def to_sweep(self, roots):
        """Steps up to the turn, that one included."""
        while self.collector.step(roots) != "turn":
            pass

    def round(self, roots):
        """The words of a whole round, or of what is left of one."""
        words = [self.collector.step(roots)]
        while words[-1] != "end":
            words.append(self.collector.step(roots))
        return words

    def assert_state(self, phase, marked):
        self.assertEqual(self.collector.phase, phase)
        self.assertIs(type(self.collector.marked), dict)
        self.assertEqual(sorted(self.collector.marked), sorted(marked))


class WordsTest(CollectorTest):
    def test_the_example_of_the_interface(self):
        store = Store()
        one, _ = store.keep("layer", "a"), store.keep("layer", "b")
        collector = Collector(store)
        words = [collector.step([one]) for _ in range(5)]
        self.assertEqual(words, ["begin", "mark", "turn", "sweep", "end"])
        self.assertEqual(store.addresses(), [one])

    def test_a_new_collector_is_idle_and_has_marked_nothing(self):
        self.assert_state("idle", [])

    def test_an_empty_store(self):
        collector = Collector(Store())
        words = [collector.step([]) for _ in range(7)]
        self.assertEqual(words, ["begin", "turn", "end", "begin", "turn", "end", "begin"])

    def test_a_store_without_roots_is_emptied(self):
        self.assertEqual(self.round([]), ["begin", "turn", *["sweep"] * 9, "end"])
        self.assertEqual(self.store.addresses(), [])

    def test_one_layer_as_root(self):
        self.assertEqual(self.round([self.a]), ["begin", "mark", "turn", *["sweep"] * 8, "end"])
        self.assertEqual(self.store.addresses(), [self.a])

    def test_a_mark_step_for_each_time_that_an_address_is_reached(self):
        # The image, and its layers, of which one stands twice.
        self.assertEqual(self.round([self.two]), ["begin", *["mark"] * 4, "turn", *["sweep"] * 6, "end"])
        self.assertEqual(self.store.addresses(), sorted([self.two, self.a, self.c]))

    def test_roots_that_are_reached_more_than_once(self):
        roots = [self.bundle, self.two, self.a]
        # The three roots; the two images of the bundle; three layers of one image and two of the other.
        self.assertEqual(self.round(roots), ["begin", *["mark"] * 10, "turn", *["sweep"] * 3, "end"])
        self.assertEqual(self.store.addresses(), sorted(self.kept))

    def test_the_same_root_twice_in_the_list(self):
        self.assertEqual(self.round([self.one, self.one]), ["begin", *["mark"] * 4, "turn", *["sweep"] * 6, "end"])
        self.assertEqual(self.store.addresses(), sorted([self.one, self.a, self.b]))

    def test_the_references_of_an_address_that_is_reached_again_are_not_added_again(self):
        words = self.round([self.bundle] * 3)
        self.assertEqual(words.count("mark"), 3 + 2 + 5)

    def test_a_store_in_which_all_is_needed_has_nothing_to_sweep(self):
        self.round([self.bundle])
        self.assertEqual(self.round([self.bundle]), ["begin", *["mark"] * 8, "turn", "end"])
        self.assertEqual(self.store.addresses(), sorted(self.kept))

    def test_a_root_of_which_something_is_not_there(self):
        image = self.store.keep("image", image_text([ABSENT, self.b]))
        self.assertEqual(self.round([image, ABSENT]), ["begin", *["mark"] * 4, "turn", *["sweep"] * 8, "end"])
        self.assertEqual(self.store.addresses(), sorted([image, self.b]))


class StepsTest(CollectorTest):
    def test_the_first_step_marks_nothing_yet(self):
        self.assertEqual(self.collector.step([self.bundle]), "begin")
        self.assert_state("mark", [])

    def test_the_phase_and_the_marks_behind_each_step(self):
        marked = []
        self.assertEqual(self.collector.step([self.loose[0], self.two]), "begin")
        # The roots come first, each reference behind what has been waiting.
        for address in (self.loose[0], self.two, self.a, self.c, self.a):
            self.assert_state("mark", marked)
            self.assertEqual(self.collector.step([]), "mark")
            marked = sorted({*marked, address})
        self.assert_state("mark", marked)
        self.assertEqual(self.collector.step([]), "turn")
        for _ in range(5):
            self.assert_state("sweep", marked)
            self.assertEqual(self.collector.step([]), "sweep")
        self.assert_state("sweep", marked)
        self.assertEqual(self.collector.step([]), "end")
        self.assertEqual(self.collector.phase, "idle")

    def test_references_wait_behind_the_other_roots(self):
        self.collector.step([self.bundle, self.loose[1]])
        found = []
        for address in (self.bundle, self.loose[1], self.one, self.two, self.b, self.a):
            self.collector.step([])
            found.append(address)
            self.assert_state("mark", found)
        self.assertEqual([self.collector.step([]) for _ in range(4)], ["mark", "mark", "mark", "turn"])
        self.assert_state("sweep", [*found, self.c])

    def test_the_store_behind_each_step(self):
        before = self.store.addresses()
        self.collector.step([self.one])
        while self.collector.phase == "mark":
            self.assertEqual(self.store.addresses(), before)
            self.collector.step([])
        self.assertEqual(self.store.addresses(), before)
        needed = [self.one, self.a, self.b]
        unneeded = [address for address in before if address not in needed]
        for at in range(len(unneeded)):
            self.assertEqual(self.collector.step([]), "sweep")
            self.assertEqual(self.store.addresses(), sorted(needed + unneeded[at + 1:]))
        self.assertEqual(self.collector.step([]), "end")
        self.assertEqual(self.store.addresses(), sorted(needed))

    def test_only_the_first_step_of_a_round_uses_the_roots(self):
        self.collector.step([self.one])
        for roots in ([self.bundle], [], [self.lost], self.loose):
            self.collector.step(roots)
        self.round([self.two, self.bundle])
        self.assertEqual(self.store.addresses(), sorted([self.one, self.a, self.b]))

    def test_a_later_step_does_not_take_the_roots_of_the_first_one_anew(self):
        self.collector.step([])
        self.assertEqual(self.collector.step([self.bundle]), "turn")
        self.round([self.bundle])
        self.assertEqual(self.store.addresses(), [])

    def test_the_list_of_a_sweep_is_made_at_the_turn(self):
        self.steps(2, [self.one])
        early = self.store.keep("layer", "stored while marking")
        self.to_sweep([])
        late = self.store.keep("layer", "stored while sweeping")
        self.round([])
        self.assertEqual(self.store.addresses(), sorted([self.one, self.a, self.b, late]))
        self.assertIsNone(self.store.blob(early))

    def test_a_blob_that_is_gone_before_the_sweep_comes_to_it(self):
        self.to_sweep([self.one])
        for address in (*self.loose, self.lost):
            self.store.remove_blob(address)
        self.assertEqual(self.round([]), [*["sweep"] * 6, "end"])
        self.assertEqual(self.store.addresses(), sorted([self.one, self.a, self.b]))

    def test_a_round_behind_a_round(self):
        first = self.round([self.bundle, self.lost])
        self.assertEqual(self.store.addresses(), sorted([*self.kept, self.lost, self.loose[0]]))
        self.assertEqual(first.count("sweep"), 1)
        self.assertEqual(self.collector.step([self.one]), "begin")
        self.assert_state("mark", [])
        self.assertEqual(self.round([]), [*["mark"] * 3, "turn", *["sweep"] * 5, "end"])
        self.assertEqual(self.store.addresses(), sorted([self.one, self.a, self.b]))
        self.round([])
        self.assertEqual(self.store.addresses(), [])

    def test_nothing_is_marked_between_two_rounds(self):
        self.round([self.bundle])
        self.assert_state("idle", [])

    def test_two_collectors_have_nothing_in_common(self):
        other = Collector(self.store)
        self.steps(3, [self.bundle])
        self.assertEqual((other.phase, other.marked), ("idle", {}))
        self.assertEqual(other.step([]), "begin")
        self.assertEqual(other.step([]), "turn")
        self.assert_state("mark", [self.bundle, self.one])


class ShadeTest(CollectorTest):
    def test_it_does_nothing_while_the_collector_is_idle(self):
        self.assertIsNone(self.collector.shade(self.bundle))
        self.assert_state("idle", [])
        self.assertEqual(self.round([]), ["begin", "turn", *["sweep"] * 9, "end"])
        self.assertEqual(self.store.addresses(), [])
        layer = self.store.keep("layer", "a")
        self.collector.shade(layer)
        self.assert_state("idle", [])
        self.assertEqual(self.steps(3, []), ["begin", "turn", "sweep"])
        self.assertEqual(self.store.addresses(), [])

    def test_it_marks_the_whole_closure_at_once_while_marking(self):
        self.collector.step([])
        self.assertIsNone(self.collector.shade(self.bundle))
        self.assert_state("mark", self.kept)
        self.collector.shade(self.loose[1])
        self.assert_state("mark", [*self.kept, self.loose[1]])
        self.assertEqual(self.round([]), ["turn", *["sweep"] * 2, "end"])
        self.assertEqual(self.store.addresses(), sorted([*self.kept, self.loose[1]]))

    def test_it_marks_the_whole_closure_at_once_while_sweeping(self):
        self.to_sweep([])
        self.collector.shade(self.bundle)
        self.assert_state("sweep", self.kept)
        # What is on the list stays on it: a step for each address, whether its blob is removed or not.
        self.assertEqual(self.round([]), [*["sweep"] * 9, "end"])
        self.assertEqual(self.store.addresses(), sorted(self.kept))

    def test_it_saves_what_the_sweep_has_not_come_to_yet(self):
        unneeded = self.store.addresses()
        self.to_sweep([])
        self.steps(4, [])
        layers = [address for address in unneeded[4:] if self.store.blob(address)[0] == "layer"]
        self.assertNotEqual(layers, [])
        for layer in layers:
            self.collector.shade(layer)
        self.assertEqual(self.store.addresses(), unneeded[4:])
        self.assertEqual(self.round([]), [*["sweep"] * 5, "end"])
        self.assertEqual(self.store.addresses(), layers)

    def test_it_marks_what_is_below_an_address_that_is_marked_already(self):
        self.steps(2, [self.bundle])
        self.assert_state("mark", [self.bundle])
        self.collector.shade(self.bundle)
        self.assert_state("mark", self.kept)

    def test_what_is_shaded_while_it_waits_adds_no_references(self):
        self.collector.step([self.bundle, self.loose[0]])
        self.collector.shade(self.bundle)
        self.assertEqual(self.round([]), ["mark", "mark", "turn", *["sweep"] * 2, "end"])
        self.assertEqual(self.store.addresses(), sorted([*self.kept, self.loose[0]]))

    def test_it_adds_nothing_to_what_waits(self):
        self.collector.step([self.loose[0]])
        self.collector.shade(self.bundle)
        self.assertEqual(self.steps(2, []), ["mark", "turn"])

    def test_shading_twice_is_shading_once(self):
        self.collector.step([])
        self.collector.shade(self.two)
        self.collector.shade(self.two)
        self.collector.shade(self.a)
        self.assert_state("mark", [self.two, self.a, self.c])

    def test_a_new_layer_that_is_stored_during_a_sweep(self):
        self.to_sweep([self.one])
        self.collector.step([])
        layer = self.store.keep("layer", "new")
        self.collector.shade(layer)
        self.assert_state("sweep", [self.one, self.a, self.b, layer])
        self.assertEqual(self.round([]), [*["sweep"] * 5, "end"])
        self.assertEqual(self.store.addresses(), sorted([self.one, self.a, self.b, layer]))

    def test_a_layer_that_is_stored_again_behind_its_removal_and_shaded(self):
        self.to_sweep([self.one])
        self.steps(6, [])
        self.assertIsNone(self.store.blob(self.loose[0]))
        self.collector.shade(self.store.keep("layer", "loose"))
        self.assertEqual(self.round([]), ["end"])
        self.assertEqual(self.store.addresses(), sorted([self.one, self.a, self.b, self.loose[0]]))

    def test_what_is_stored_anew_on_the_list_of_the_sweep_is_removed_unless_it_is_shaded(self):
        self.to_sweep([self.one])
        self.store.keep("layer", "loose")
        self.collector.shade(self.store.keep("layer", "looser"))
        self.round([])
        self.assertEqual(self.store.addresses(), sorted([self.one, self.a, self.b, self.loose[1]]))

    def test_a_shade_counts_for_its_own_round_alone(self):
        self.collector.step([])
        self.collector.shade(self.bundle)
        self.round([])
        self.assertEqual(self.store.addresses(), sorted(self.kept))
        self.assertEqual(self.steps(2, []), ["begin", "turn"])
        self.assert_state("sweep", [])
        self.round([])
        self.assertEqual(self.store.addresses(), [])


class StopTest(CollectorTest):
    def assert_stopped(self):
        before = self.store.addresses()
        self.assertIsNone(self.collector.stop())
        self.assert_state("idle", [])
        self.assertEqual(self.store.addresses(), before)
        self.collector.shade(self.one)
        self.assert_state("idle", [])

    def assert_a_whole_round(self):
        unneeded = len(self.store.addresses()) - 3
        words = ["begin", *["mark"] * 3, "turn", *["sweep"] * unneeded, "end"]
        self.assertEqual(self.round([self.one]), words)
        self.assertEqual(self.store.addresses(), sorted([self.one, self.a, self.b]))

    def test_while_it_is_idle(self):
        self.assert_stopped()
        self.assert_a_whole_round()
        self.assert_stopped()
        self.assert_a_whole_round()

    def test_behind_the_first_step(self):
        self.collector.step([self.bundle])
        self.assert_stopped()
        self.assert_a_whole_round()

    def test_while_marking(self):
        self.steps(4, [self.bundle])
        self.assert_state("mark", [self.bundle, self.one, self.two])
        self.assert_stopped()
        self.assert_a_whole_round()

    def test_behind_the_turn(self):
        self.to_sweep([self.bundle])
        self.assert_state("sweep", self.kept)
        self.assert_stopped()
        self.assert_a_whole_round()

    def test_while_sweeping(self):
        self.to_sweep([self.bundle])
        self.steps(2, [])
        self.assertEqual(len(self.store.addresses()), 7)
        self.assert_stopped()
        self.assert_a_whole_round()

    def test_a_shade_goes_with_the_round(self):
        self.collector.step([])
        self.collector.shade(self.bundle)
        self.assert_stopped()
        self.assert_a_whole_round()


class FactTest(unittest.TestCase):
    """Point CO3, over many rounds in which roots come and go, each new one whole and shaded."""

    def setUp(self):
        self.store = Store()
        self.collector = Collector(self.store)
        self.roots = []
        self.kept = 0

    def assert_roots_are_there(self, closures):
        for root in self.roots:
            self.assertTrue(self.store.is_whole(root))
            for address in closures[root]:
                self.assertIsNotNone(self.store.blob(address))

    def add_root(self, chance):
        """A new root: a layer, an image of whole layers or a bundle of whole images; some were there before."""
        whole = [address for address in self.store.addresses() if self.store.is_whole(address)]
        kinds = {address: self.store.blob(address)[0] for address in whole}
        layers = [address for address in whole if kinds[address] == "layer"]
        images = [address for address in whole if kinds[address] == "image"]
        choice = chance.randrange(4)
        if choice == 0 or not whole:
            self.kept += 1
            root = self.store.keep("layer", f"layer {self.kept % 40}")
        elif choice == 1:
            root = self.store.keep("image", image_text(chance.choices(layers, k=chance.randrange(4)) if layers else []))
        elif choice == 2 and images:
            pairs = list(zip(("mill", "wharf", "quay"), chance.choices(images, k=1 + chance.randrange(3))))
            root = self.store.keep("bundle", bundle_text(pairs))
        else:
            root = chance.choice(whole)
        self.collector.shade(root)
        self.roots.append(root)
        return root

    def run_of(self, seed):
        chance = random.Random(seed)
        closures, words = {}, []
        for _ in range(400):
            event = chance.randrange(10)
            if event < 2 and len(self.roots) < 9:
                root = self.add_root(chance)
                closures[root] = self.store.closure(root)
            elif event == 2 and self.roots:
                self.roots.pop(chance.randrange(len(self.roots)))
            elif event == 3 and chance.randrange(8) == 0:
                self.collector.stop()
            elif event == 4:
                self.store.keep("layer", f"loose {chance.randrange(20)}")
            else:
                words.append(self.collector.step(list(self.roots)))
            self.assert_roots_are_there(closures)
        return words

    def test_whatever_is_a_root_is_there_behind_each_step(self):
        words = []
        for seed in range(60):
            self.setUp()
            words += self.run_of(seed)
        # The runs are worth something only if rounds are ended and blobs are swept in them.
        self.assertGreater(words.count("end"), 120)
        self.assertGreater(words.count("sweep"), 600)

    def test_two_rounds_with_the_same_roots_leave_exactly_their_closures(self):
        for seed in range(60):
            self.setUp()
            self.run_of(seed)
            needed = {address for root in self.roots for address in self.store.closure(root)}
            for _ in range(2):
                while self.collector.step(self.roots) != "end":
                    pass
            self.assertEqual(self.store.addresses(), sorted(needed))


class ListsTest(CollectorTest):
    """Point A2: the list of the roots is the caller's own."""

    def test_the_list_can_be_changed_behind_the_first_step(self):
        roots = [self.one]
        self.collector.step(roots)
        roots.clear()
        roots.append(self.lost)
        self.round(roots)
        self.assertEqual(self.store.addresses(), sorted([self.one, self.a, self.b]))

    def test_no_step_changes_the_list(self):
        roots = [self.bundle, self.one, self.bundle]
        before = list(roots)
        for _ in range(40):
            self.collector.step(roots)
            self.assertEqual(roots, before)


if __name__ == "__main__":
    unittest.main()
