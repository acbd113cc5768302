"""Point 12, as far as it speaks of entries: the class Entry."""

import unittest

from ruleswood.entries import Entry

LEFT, RIGHT = ("plus", 0, ("zero",)), 0
CHAIN = [(0, (1,), True, ("plus", 0, ("one",))), (3, (), False, 0)]


class EntryTest(unittest.TestCase):
    def assert_fields(self, entry):
        self.assertEqual(entry.number, 7)
        self.assertEqual(entry.left, LEFT)
        self.assertEqual(entry.right, RIGHT)
        self.assertEqual(entry.chain, CHAIN)

    def test_by_position(self):
        self.assert_fields(Entry(7, LEFT, RIGHT, CHAIN))

    def test_by_names(self):
        self.assert_fields(Entry(chain=CHAIN, right=RIGHT, left=LEFT, number=7))

    def test_the_fields_are_set_on_the_object(self):
        entry = Entry(0, LEFT, RIGHT, [])
        self.assertEqual(vars(entry), {"number": 0, "left": LEFT, "right": RIGHT, "chain": []})

    def test_an_empty_chain(self):
        entry = Entry(0, ("a",), ("b",), [])
        self.assertIsInstance(entry.chain, list)
        self.assertEqual(entry.chain, [])

    def test_entries_do_not_share_what_they_hold(self):
        one, other = Entry(0, LEFT, RIGHT, []), Entry(1, RIGHT, LEFT, [])
        one.chain.append(CHAIN[0])
        self.assertEqual((one.number, other.number), (0, 1))
        self.assertEqual((one.left, other.left), (LEFT, RIGHT))
        self.assertEqual(other.chain, [])

    def test_what_becomes_of_the_handed_list_changes_nothing(self):
        chain = list(CHAIN)
        entry = Entry(7, LEFT, RIGHT, chain)
        chain.append((1, (), True, RIGHT))
        chain[0] = (9, (), True, LEFT)
        self.assert_fields(entry)

    def test_the_handed_list_stays(self):
        chain = list(CHAIN)
        entry = Entry(7, LEFT, RIGHT, chain)
        entry.chain.clear()
        self.assertEqual(chain, CHAIN)


if __name__ == "__main__":
    unittest.main()
