"""Point CM1: claims."""

import unittest

from layerwharf.claims import Claims


class ClaimsTest(unittest.TestCase):
    def setUp(self):
        self.claims = Claims()

    def begin(self, many):
        return [self.claims.begin() for _ in range(many)]

    def test_the_example_of_the_interface(self):
        claims = Claims()
        self.assertEqual((claims.begin(), claims.begin()), (1, 2))
        claims.pin(2, "b")
        claims.pin(1, "a")
        claims.end(1)
        self.assertEqual((claims.numbers(), claims.pinned()), ([2], ["b"]))

    def test_there_are_none_at_first(self):
        self.assertEqual((self.claims.numbers(), self.claims.pinned()), ([], []))
        self.assertEqual([self.claims.is_open(claim) for claim in (0, 1, 2)], [False] * 3)

    def test_the_numbers_go_from_1_on_in_order(self):
        self.assertEqual(self.begin(12), list(range(1, 13)))
        self.assertEqual(self.claims.numbers(), list(range(1, 13)))

    def test_no_number_is_used_again(self):
        self.begin(3)
        self.claims.end(3)
        self.assertEqual(self.claims.begin(), 4)
        self.claims.end(1)
        self.claims.end(4)
        self.claims.end(2)
        self.assertEqual(self.claims.numbers(), [])
        self.assertEqual(self.begin(2), [5, 6])
        self.assertEqual(self.claims.numbers(), [5, 6])

    def test_ending_what_is_not_open_uses_up_no_number(self):
        self.claims.end(1)
        self.assertEqual(self.claims.begin(), 1)
        self.claims.end(2)
        self.assertEqual(self.claims.begin(), 2)
        self.assertEqual(self.claims.numbers(), [1, 2])

    def test_a_claim_is_open_from_its_beginning_to_its_end(self):
        self.assertIs(self.claims.is_open(1), False)
        self.begin(2)
        self.assertIs(self.claims.is_open(1), True)
        self.assertIs(self.claims.is_open(2), True)
        self.claims.end(1)
        self.assertIs(self.claims.is_open(1), False)
        self.assertIs(self.claims.is_open(2), True)
        self.claims.begin()
        self.assertIs(self.claims.is_open(1), False)
        for never in (0, -1, 4, 10 ** 20):
            self.assertIs(self.claims.is_open(never), False)

    def test_pinning_keeps_a_claim_open(self):
        self.begin(2)
        self.assertIsNone(self.claims.pin(1, "a"))
        self.assertEqual([self.claims.is_open(claim) for claim in (1, 2)], [True, True])
        self.assertEqual(self.claims.numbers(), [1, 2])

    def test_ending_a_claim_that_has_ended_or_never_was_changes_nothing(self):
        self.begin(3)
        self.claims.pin(1, "a")
        self.claims.pin(2, "b")
        self.assertIsNone(self.claims.end(2))
        for claim in (2, 0, 4, -1, 2):
            self.assertIsNone(self.claims.end(claim))
            self.assertEqual((self.claims.numbers(), self.claims.pinned()), ([1, 3], ["a"]))

    def test_the_numbers_are_in_ascending_order(self):
        self.begin(12)
        for claim, left in ((5, [1, 2, 3, 4, 6, 7, 8, 9, 10, 11, 12]), (1, [2, 3, 4, 6, 7, 8, 9, 10, 11, 12])):
            self.claims.end(claim)
            self.assertEqual(self.claims.numbers(), left)
        # Whatever is pinned last, the numbers keep their order.
        self.claims.pin(2, "a")
        self.assertEqual(self.claims.numbers(), [2, 3, 4, 6, 7, 8, 9, 10, 11, 12])

    def test_what_is_pinned_is_in_ascending_order(self):
        self.begin(2)
        for claim, address in ((2, "0c"), (1, "0b"), (1, "f0"), (2, "0a"), (2, "10"), (1, "09")):
            self.claims.pin(claim, address)
        self.assertEqual(self.claims.pinned(), ["09", "0a", "0b", "0c", "10", "f0"])

    def test_the_same_address_under_one_claim_and_under_two_stands_once(self):
        self.begin(2)
        self.claims.pin(1, "a")
        self.claims.pin(1, "a")
        self.assertEqual(self.claims.pinned(), ["a"])
        self.claims.pin(2, "a")
        self.claims.pin(2, "b")
        self.assertEqual(self.claims.pinned(), ["a", "b"])

    def test_what_is_pinned_goes_with_its_claim(self):
        self.begin(2)
        self.claims.pin(1, "b")
        self.claims.pin(1, "a")
        self.claims.pin(1, "a")
        self.claims.pin(2, "c")
        self.claims.end(1)
        self.assertEqual(self.claims.pinned(), ["c"])
        self.claims.end(2)
        self.assertEqual(self.claims.pinned(), [])
        self.claims.begin()
        self.assertEqual(self.claims.pinned(), [])

    def test_what_another_claim_has_too_stays_pinned(self):
        self.begin(3)
        for claim in (1, 2, 3):
            self.claims.pin(claim, "a")
        self.claims.pin(1, "b")
        self.claims.pin(3, "b")
        self.claims.end(1)
        self.assertEqual(self.claims.pinned(), ["a", "b"])
        self.claims.end(3)
        self.assertEqual(self.claims.pinned(), ["a"])
        self.claims.end(2)
        self.assertEqual(self.claims.pinned(), [])

    def test_two_objects_have_nothing_in_common(self):
        self.begin(2)
        self.claims.pin(1, "a")
        other = Claims()
        self.assertEqual((other.numbers(), other.pinned(), other.begin()), ([], [], 1))


class FreshListsTest(unittest.TestCase):
    """Point A2: a list that is returned can be changed without a change of the claims."""

    def test_what_is_returned_is_not_shared(self):
        claims = Claims()
        claims.begin()
        claims.pin(1, "a")
        claims.numbers().append(2)
        claims.numbers().clear()
        claims.pinned().append("b")
        claims.pinned().clear()
        self.assertEqual((claims.numbers(), claims.pinned(), claims.is_open(2)), ([1], ["a"], False))
        self.assertEqual((type(claims.numbers()), type(claims.pinned())), (list, list))
        self.assertEqual(claims.begin(), 2)


if __name__ == "__main__":
    unittest.main()
