"""The sizes and the number of rooms in B1, and "letpast/rooms.py" in the interface."""

import unittest

from letpast.errors import LetError
from letpast.rooms import BadRooms, settled_rooms


class Rooms(unittest.TestCase):
    def refused(self, rooms, number):
        kept = list(rooms)
        with self.assertRaises(BadRooms) as caught:
            settled_rooms(rooms)
        self.assertEqual(caught.exception.number, number)
        self.assertEqual(list(rooms), kept)

    def test_lists_and_tuples(self):
        for rooms in ((), (2,), (3, 0, 3), (0, 10 ** 31, 1, 7)):
            for given in (rooms, list(rooms)):
                told = settled_rooms(given)
                self.assertEqual(told, rooms)
                self.assertIs(type(told), tuple)

    def test_nothing_that_is_passed_is_changed(self):
        rooms = [5, 3, 9]
        told = settled_rooms(rooms)
        self.assertEqual(rooms, [5, 3, 9])
        rooms[0] = 1
        rooms.append(4)
        self.assertEqual(told, (5, 3, 9))

    def test_more_than_four(self):
        for rooms in ((1,) * 5, [0] * 9, [-1, 2, 3, 4, 5], [-1] * 5, [1, 2, 3, 4, 10 ** 31 + 1]):
            self.refused(rooms, None)

    def test_the_first_wrong_one(self):
        for wrong in (-1, -10 ** 31, 10 ** 31 + 1):
            self.refused([wrong], 0)
            self.refused((2, wrong, 3), 1)
            self.refused([2, 0, 10 ** 31, wrong], 3)
            self.refused([2, wrong, -wrong, wrong], 1)

    def test_it_is_a_let_error(self):
        self.assertTrue(issubclass(BadRooms, LetError))


if __name__ == "__main__":
    unittest.main()
