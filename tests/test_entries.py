"""The fields of an entry, as point 20 and the interface name them, and point 2 for its lists."""

import unittest

from quotefind.entries import Entry


def made(**changed):
    told = {
        "number": 3, "older": "genesis", "newer": "psalter", "worth": 18,
        "way": [(0, 1), (2, 2)], "row": [10, 18], "pairs": [(0, 1), (1, 1), (2, 2)], "left": True,
    }
    told.update(changed)
    return Entry(**told)


class Entries(unittest.TestCase):

    def test_each_field_under_its_name(self):
        entry = made()
        self.assertEqual(entry.number, 3)
        self.assertEqual(entry.older, "genesis")
        self.assertEqual(entry.newer, "psalter")
        self.assertEqual(entry.worth, 18)
        self.assertEqual(entry.way, [(0, 1), (2, 2)])
        self.assertEqual(entry.row, [10, 18])
        self.assertEqual(entry.pairs, [(0, 1), (1, 1), (2, 2)])
        self.assertIs(entry.left, True)

    def test_left_is_false_at_first(self):
        entry = Entry(1, "older", "newer", 10, [(0, 0)], [10], [(0, 0)])
        self.assertIs(entry.left, False)
        self.assertEqual((entry.number, entry.older, entry.newer, entry.worth), (1, "older", "newer", 10))
        self.assertEqual((entry.way, entry.row, entry.pairs), ([(0, 0)], [10], [(0, 0)]))

    def test_the_lists_handed_in_are_not_kept(self):
        way = [(0, 1)]
        row = [10]
        pairs = [(0, 1), (1, 1)]
        entry = made(way=way, row=row, pairs=pairs)
        way.append((5, 5))
        row[0] = 77
        pairs.clear()
        self.assertEqual((entry.way, entry.row, entry.pairs), ([(0, 1)], [10], [(0, 1), (1, 1)]))
        entry.way.clear()
        self.assertEqual(way, [(0, 1), (5, 5)])

    def test_one_list_handed_in_twice_becomes_two(self):
        pairs = [(0, 1)]
        entry = made(way=pairs, pairs=pairs)
        entry.way.append((5, 5))
        self.assertEqual(entry.pairs, [(0, 1)])

    def test_two_entries_share_nothing(self):
        way = [(0, 1)]
        one = made(way=way)
        other = made(way=way)
        one.way.append((5, 5))
        one.left = False
        self.assertEqual(other.way, [(0, 1)])
        self.assertIs(other.left, True)


if __name__ == "__main__":
    unittest.main()
