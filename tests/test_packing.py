"""E1, and "letpast/packing.py" in the interface."""

import copy
import itertools
import random
import unittest

from letpast.errors import LetError
from letpast.packing import BadSizes, packed
from tests.by_words import packed_by_words, packed_size_by_size
from tests.support import WithinSeconds, bad_rooms, kinds_within, told

GREAT = 10 ** 30


def bad_sizes(place):
    return ("BadSizes", {"place": place})


class Packed(unittest.TestCase):
    def look(self, sizes, rooms, most, packing):
        self.assertEqual(packed(sizes, rooms), (most, packing))

    def test_example(self):
        self.look((5, 4, 4), (8, 4), 9, (0, 1, None))

    def test_without_sizes_or_rooms(self):
        for rooms in ((), (3,), (0, 0, 0, 0), (10 ** 31,) * 4):
            self.look((), rooms, 0, ())
        self.look((1,), (), 0, (None,))
        self.look((1, 2, GREAT), (), 0, (None, None, None))

    def test_rooms_without_cells(self):
        self.look((1, 1), (0, 0, 0, 0), 0, (None, None))
        self.look((1, 2), (0, 2, 0, 1), 3, (3, 1))

    def test_just_full_and_one_cell_less(self):
        self.look((3, 4), (7,), 7, (0, 0))
        self.look((3, 4), (6,), 4, (None, 0))
        self.look((3, 4), (3, 4), 7, (0, 1))
        self.look((3, 4), (3, 3), 3, (0, None))
        self.look((GREAT, GREAT), (2 * GREAT,), 2 * GREAT, (0, 0))
        self.look((GREAT, GREAT), (2 * GREAT - 1,), GREAT, (0, None))

    def test_rooms_do_not_share_their_cells(self):
        self.look((3, 3), (2, 2, 2), 0, (None, None))
        self.look((2, 2, 2), (3, 3), 4, (0, 1, None))

    def test_the_most_cells_count_and_not_the_most_sizes(self):
        self.look((1, 1, 1, 4), (4,), 4, (None, None, None, 0))
        self.look((3, 2, 2), (4,), 4, (None, 0, 0))
        self.look((1, 4, 4), (4, 4), 8, (None, 0, 1))

    def test_of_several_packings_the_first_one(self):
        self.look((2, 2), (2, 2), 4, (0, 1))
        self.look((1, 1), (2, 2, 2), 2, (0, 0))
        self.look((3, 3), (3,), 3, (0, None))
        self.look((2, 2, 4), (4,), 4, (0, 0, None))
        self.look((4, 2, 2), (4,), 4, (0, None, None))
        self.look((2, 1), (1, 2), 3, (1, 0))
        self.look((1, 2, 3, 3), (3, 3), 6, (0, 0, 1, None))
        self.look((1, 3, 2), (3, 3), 6, (0, 1, 0))
        self.look((2, 1, 2, 1), (2, 3), 5, (0, 1, 1, None))

    def test_twelve_sizes(self):
        self.look((1,) * 12, (12,), 12, (0,) * 12)
        self.look((1,) * 12, (3, 0, 4, 1), 8, (0, 0, 0, 2, 2, 2, 2, 3, None, None, None, None))
        self.look((GREAT,) * 12, (10 ** 31, 10 ** 31), 12 * GREAT, (0,) * 10 + (1, 1))

    def test_against_all_packings(self):
        rows = ((), (2,), (4,), (3, 3), (1, 4), (5, 2), (2, 0, 3), (1, 2, 4), (1, 2, 2, 3), (4, 3, 2, 1))
        for count in range(5):
            for sizes, rooms in itertools.product(itertools.product((1, 2, 3), repeat=count), rows):
                self.assertEqual(packed(sizes, rooms), packed_by_words(sizes, rooms), (sizes, rooms))

    def test_against_another_way_for_many_sizes(self):
        chance = random.Random(12)
        for _ in range(25):
            sizes = [chance.randrange(1, 9) for _ in range(chance.randrange(7, 13))]
            rooms = [chance.randrange(0, 12) for _ in range(chance.randrange(1, 5))]
            most, packing = packed_size_by_size(sizes, rooms)
            self.assertEqual(packed(sizes, rooms), (most, packing), (sizes, rooms))
            # The same, with great sizes and with fewer cells left than the least size has.
            great = [size * 10 ** 29 for size in sizes]
            wide = [cells * 10 ** 29 + 10 ** 29 - 1 for cells in rooms]
            self.assertEqual(packed(great, wide), (most * 10 ** 29, packing), (sizes, rooms))


class Greatest(unittest.TestCase):
    def test_twelve_great_sizes_and_four_rooms_within_a_limit_of_time(self):
        chance = random.Random(1)
        for least in (1, 10 ** 29, 9 * 10 ** 29, GREAT):
            sizes = [chance.randrange(least, GREAT + 1) for _ in range(12)]
            total = sum(sizes)
            for rooms in ([10 ** 31] * 4, [total // 4] * 4, [total // 5, total // 9, total // 3, total // 7], [GREAT] * 4):
                with WithinSeconds(2):
                    most, packing = packed(sizes, rooms)
                held = [sum(size for size, at in zip(sizes, packing) if at == number) for number in range(4)]
                self.assertTrue(all(cells <= room for cells, room in zip(held, rooms)))
                self.assertEqual(sum(held), most)
                left = [size for size, at in zip(sizes, packing) if at is None]
                self.assertTrue(all(cells + size > room for cells, room in zip(held, rooms) for size in left))

    def test_rooms_that_can_be_filled_to_the_last_cell(self):
        chance = random.Random(2)
        for _ in range(5):
            sizes = [chance.randrange(1, GREAT + 1) for _ in range(12)]
            rooms = [sum(sizes[number::4]) for number in range(4)]
            self.assertEqual(packed(sizes, rooms), (sum(sizes), (0, 1, 2, 3) * 3))

    def test_greatest_rooms(self):
        self.assertEqual(packed([GREAT] * 12, [10 ** 31] * 4), (12 * GREAT, (0,) * 10 + (1, 1)))
        self.assertEqual(packed([GREAT], [0, 10 ** 31]), (GREAT, (1,)))


class WrongArguments(unittest.TestCase):
    def refused(self, sizes, rooms, wanted):
        kept = copy.deepcopy((sizes, rooms))
        self.assertEqual(told(packed, sizes, rooms), wanted)
        self.assertEqual((sizes, rooms), kept)

    def test_more_than_twelve_sizes(self):
        for sizes in ((1,) * 13, [0] * 13, [GREAT + 1] * 20, [1] * 12 + [0]):
            self.refused(sizes, (), bad_sizes(None))

    def test_the_first_wrong_size(self):
        for wrong in (0, -1, -GREAT, GREAT + 1, 10 ** 40):
            self.refused([wrong], (5,), bad_sizes(0))
            self.refused((1, GREAT, wrong, 5, 0), (5,), bad_sizes(2))
            self.refused([2] * 11 + [wrong], (5,), bad_sizes(11))

    def test_wrong_rooms(self):
        self.refused([1], [1] * 5, bad_rooms(None))
        self.refused([1], [10 ** 31, 0, -1], bad_rooms(2))
        self.refused([], [10 ** 31 + 1, -1], bad_rooms(0))

    def test_several_wrong_things_at_once(self):
        self.refused([1] * 12 + [0], [1] * 5, bad_sizes(None))
        self.refused([1, 0], [1] * 5, bad_sizes(1))
        self.refused([1, 0], [-1], bad_sizes(1))
        self.refused([1, 1], [0, 0, -1, 0, 0], bad_rooms(None))

    def test_class_of_the_error(self):
        self.assertTrue(issubclass(BadSizes, LetError))


class Kinds(unittest.TestCase):
    def test_lists_and_tuples(self):
        for sizes, rooms in itertools.product(((5, 4, 4), [5, 4, 4]), ((8, 4), [8, 4])):
            kept = copy.deepcopy((sizes, rooms))
            answer = packed(sizes, rooms)
            self.assertEqual(answer, (9, (0, 1, None)))
            self.assertEqual(kinds_within(answer), {tuple, int, type(None)})
            self.assertEqual((sizes, rooms), kept)


if __name__ == "__main__":
    unittest.main()
