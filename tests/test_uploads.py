"""Point UL1: uploads."""

import unittest

from layerwharf.uploads import Uploads


class UploadsTest(unittest.TestCase):
    def setUp(self):
        self.uploads = Uploads()

    def begin(self, many):
        return [self.uploads.begin() for _ in range(many)]

    def test_the_example_of_the_interface(self):
        uploads = Uploads()
        self.assertEqual((uploads.begin(), uploads.add_part(1, 0, "ab")), (1, 2))
        self.assertEqual((uploads.add_part(1, 0, "ab"), uploads.add_part(1, 2, "c")), (2, 3))
        self.assertEqual((uploads.finish(1), uploads.finish(1), uploads.add_part(1, 0, "ab")), ("abc", None, None))

    def test_the_numbers_go_from_1_on_in_order(self):
        self.assertEqual(self.begin(12), list(range(1, 13)))

    def test_no_number_is_used_again_behind_finish(self):
        self.begin(2)
        self.uploads.finish(2)
        self.assertEqual(self.uploads.begin(), 3)
        self.uploads.finish(1)
        self.uploads.finish(3)
        self.assertEqual(self.begin(2), [4, 5])

    def test_no_number_is_used_again_behind_forget(self):
        self.assertIsNone(self.uploads.forget())
        self.assertEqual(self.begin(3), [1, 2, 3])
        self.assertIsNone(self.uploads.forget())
        self.assertEqual(self.begin(2), [4, 5])
        self.uploads.finish(5)
        self.uploads.forget()
        self.uploads.forget()
        self.assertEqual(self.uploads.begin(), 6)

    def test_asking_for_what_never_was_uses_up_no_number(self):
        self.uploads.finish(1)
        self.uploads.add_part(1, 0, "a")
        self.assertEqual(self.uploads.begin(), 1)
        self.assertEqual(self.uploads.finish(1), "")

    def test_an_upload_begins_with_an_empty_text(self):
        self.begin(2)
        self.assertEqual(self.uploads.add_part(1, 0, ""), 0)
        self.assertEqual((self.uploads.finish(2), self.uploads.finish(1)), ("", ""))

    def test_a_part_at_the_place_that_is_the_length_so_far_is_added(self):
        self.uploads.begin()
        at, whole = 0, ""
        for part in ("a", "bcd", "", "efghij\n", " ", "k" * 1000):
            whole += part
            self.assertEqual(self.uploads.add_part(1, at, part), len(whole))
            at = len(whole)
        self.assertEqual(self.uploads.finish(1), whole)

    def test_a_part_at_another_place_is_not_added(self):
        self.uploads.begin()
        for at in (1, 2, -1, 100):
            self.assertEqual(self.uploads.add_part(1, at, "xy"), 0)
        self.uploads.add_part(1, 0, "abcd")
        for at in (0, 1, 3, 5, 6, 100, -1, -4):
            self.assertEqual(self.uploads.add_part(1, at, "xyz"), 4)
            self.assertEqual(self.uploads.add_part(1, at, ""), 4)
        self.assertEqual(self.uploads.add_part(1, 4, "ef"), 6)
        self.assertEqual(self.uploads.finish(1), "abcdef")

    def test_a_part_that_comes_twice_is_added_once(self):
        self.uploads.begin()
        for at, part in ((0, "aaaa"), (4, "aaaa"), (8, "aa")):
            for _ in range(3):
                self.assertEqual(self.uploads.add_part(1, at, part), at + len(part))
        self.assertEqual(self.uploads.finish(1), "a" * 10)

    def test_an_empty_part_may_come_any_number_of_times(self):
        self.uploads.begin()
        for _ in range(3):
            self.assertEqual(self.uploads.add_part(1, 0, ""), 0)
        self.uploads.add_part(1, 0, "ab")
        for _ in range(3):
            self.assertEqual(self.uploads.add_part(1, 2, ""), 2)
        self.assertEqual(self.uploads.finish(1), "ab")

    def test_each_upload_has_its_own_text(self):
        self.begin(3)
        self.uploads.add_part(2, 0, "ab")
        self.uploads.add_part(3, 0, "x")
        self.uploads.add_part(2, 2, "c")
        self.assertEqual(self.uploads.add_part(3, 3, "d"), 1)
        self.assertEqual(self.uploads.finish(2), "abc")
        self.assertEqual(self.uploads.add_part(3, 1, "yz"), 3)
        self.assertEqual((self.uploads.finish(3), self.uploads.finish(1)), ("xyz", ""))

    def test_an_upload_that_has_ended(self):
        self.begin(2)
        self.uploads.add_part(1, 0, "ab")
        self.uploads.finish(1)
        for at, part in ((0, ""), (0, "ab"), (2, "c"), (2, "")):
            self.assertIsNone(self.uploads.add_part(1, at, part))
            self.assertIsNone(self.uploads.finish(1))
        self.assertEqual((self.uploads.finish(2), self.uploads.begin()), ("", 3))

    def test_an_upload_that_never_was(self):
        self.begin(2)
        for never in (0, 3, -1, 10 ** 20):
            self.assertIsNone(self.uploads.add_part(never, 0, "ab"))
            self.assertIsNone(self.uploads.add_part(never, 0, ""))
            self.assertIsNone(self.uploads.finish(never))
        self.assertEqual((self.uploads.begin(), self.uploads.finish(3)), (3, ""))

    def test_an_upload_that_was_forgotten(self):
        self.begin(2)
        self.uploads.add_part(2, 0, "ab")
        self.uploads.forget()
        for upload in (1, 2):
            self.assertIsNone(self.uploads.add_part(upload, 0, "ab"))
            self.assertIsNone(self.uploads.add_part(upload, 2, "c"))
            self.assertIsNone(self.uploads.finish(upload))
        self.assertEqual((self.uploads.begin(), self.uploads.finish(3)), (3, ""))

    def test_two_objects_have_nothing_in_common(self):
        self.begin(2)
        other = Uploads()
        self.assertEqual((other.finish(1), other.begin()), (None, 1))
        self.uploads.add_part(1, 0, "a")
        self.assertEqual(other.finish(1), "")
        self.assertEqual(self.uploads.finish(1), "a")


if __name__ == "__main__":
    unittest.main()
