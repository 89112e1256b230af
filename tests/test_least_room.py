"""E5, and least_room of "letpast/orders.py" in the interface."""

import copy
import itertools
import random
import unittest

from letpast.orders import blocking_pair, least_room, threshold
from letpast.texts import read_layout
from tests.by_words import least_room_by_words
from tests.support import WithinSeconds, bad_order, bad_rooms, in_a_row, kinds_within, layouts_of, small_layouts, told

EXAMPLE = read_layout("15 a@0+8 b@8+3 c@11+2")


class LeastRooms(unittest.TestCase):
    def look(self, text, order, rooms, wanted):
        self.assertEqual(least_room(read_layout(text), tuple(order), rooms), wanted)

    def test_example(self):
        self.look("15 a@0+8 b@8+3 c@11+2", "bac", (), (3, 2, ("c",)))
        self.look("15 a@0+8 b@8+3 c@11+2", "bac", (2,), (3, 0, ()))

    def test_nothing_is_reversed(self):
        for rooms in ((), (1,), (0, 0, 0, 0), (10 ** 31,) * 4):
            self.look("15 a@0+8 b@8+3 c@11+2", "abc", rooms, (0, 0, ()))
            self.look("11 a@0+8 b@8+3", "ab", rooms, (0, 0, ()))
            self.look("0", "", rooms, (0, 0, ()))
            self.look("3 a@0+3", "a", rooms, (0, 0, ()))

    def test_nothing_more_is_needed(self):
        self.look("16 a@0+8 b@8+3 c@11+2", "bac", (), (3, 0, ()))
        self.look("15 a@0+8 b@8+3 c@11+2", "acb", (), (2, 0, ()))
        self.look("15 a@0+8 b@8+3 c@11+2", "cba", (1, 2), (3, 0, ()))

    def test_the_greatest_of_the_smaller_ones(self):
        self.look("13 a@0+8 b@8+3 c@11+2", "cab", (), (2, 2, ()))
        self.look("13 a@0+8 b@8+3 c@11+2", "cba", (), (3, 3, ()))
        self.look("13 c@0+2 b@2+3 a@5+8", "acb", (), (3, 3, ()))
        self.look("13 c@0+2 b@2+3 a@5+8", "bca", (), (2, 2, ()))

    def test_room_for_all_that_is_needed_tells_no_blocks(self):
        self.look("6 a@0+3 b@3+3", "ba", (), (3, 3, ()))
        self.look("7 a@0+3 b@3+3", "ba", (), (3, 3, ()))
        self.look("8 a@0+3 b@3+3", "ba", (), (3, 3, ()))
        self.look("9 a@0+3 b@3+3", "ba", (), (3, 0, ()))

    def test_small_blocks_set_aside(self):
        self.look("12 a@0+4 b@4+4 c@8+1 d@9+2", "bacd", (), (4, 3, ("c", "d")))
        self.look("13 a@0+4 b@4+4 c@8+1 d@9+2", "bacd", (), (4, 2, ("d",)))
        self.look("14 a@0+4 b@4+4 c@8+1 d@9+2", "bacd", (), (4, 1, ("c",)))
        self.look("15 a@0+4 b@4+4 c@8+1 d@9+2", "bacd", (), (4, 0, ()))

    def test_of_several_sets_the_first_one(self):
        self.look("15 a@0+5 b@5+5 c@10+2 d@12+2", "bacd", (), (5, 4, ("c", "d")))
        self.look("17 a@0+5 b@5+5 c@10+2 d@12+2", "bacd", (), (5, 2, ("c",)))
        self.look("17 z@0+2 a@2+5 b@7+5 c@12+2", "zbac", (), (5, 2, ("z",)))
        self.look("19 a@0+6 b@6+6 c@12+3 d@15+1 e@16+2", "bacde", (), (6, 5, ("c", "e")))
        self.look("21 a@0+6 b@6+6 c@12+3 d@15+1 e@16+2", "bacde", (), (6, 3, ("c",)))
        self.look("21 d@0+1 a@1+6 b@7+6 c@13+3 e@16+2", "dbace", (), (6, 3, ("d", "e")))

    def test_with_rooms_that_are_there(self):
        # c or d lies in the room that is there, the other one in the new one.
        self.look("15 a@0+5 b@5+5 c@10+2 d@12+2", "bacd", (2,), (5, 2, ("c",)))
        self.look("15 a@0+5 b@5+5 c@10+2 d@12+2", "bacd", (2, 2), (5, 0, ()))
        self.look("15 a@0+5 b@5+5 c@10+2 d@12+1", "bacd", (2,), (5, 1, ("d",)))
        self.look("15 a@0+5 b@5+5 c@10+2 d@12+1", "bacd", (1,), (5, 2, ("c",)))
        # Here it would be the third cell that is missing: nothing is enough but room for b, or a.
        self.look("14 a@0+5 b@5+5 c@10+2 d@12+1", "bacd", (1,), (5, 5, ()))
        self.look("14 a@0+5 b@5+5 c@10+2 d@12+1", "bacd", (4,), (5, 5, ()))

    def test_beside_four_rooms(self):
        self.look("15 a@0+5 b@5+5 c@10+2 d@12+2", "bacd", (0, 2, 0, 0), (5, 2, ("c",)))
        self.look("15 a@0+5 b@5+5 c@10+2 d@12+2", "bacd", (0, 2, 1, 2), (5, 0, ()))
        self.look("13 a@0+5 b@5+5 c@10+2", "bac", (1, 1, 1, 1), (5, 5, ()))
        self.look("10 a@0+5 b@5+5", "ba", (4, 4, 4, 4), (5, 5, ()))
        self.look("10 a@0+5 b@5+5", "ba", (4, 4, 5, 4), (5, 0, ()))

    def test_against_all_sets(self):
        layouts = [*small_layouts((4, 5), 3), in_a_row((4, 4, 2, 1), 1), in_a_row((1, 5, 2, 5), 2), in_a_row((3, 3, 1, 2), 0)]
        for layout, rooms in itertools.product(layouts, ((), (1,), (2, 1), (0, 2, 2), (1, 1, 1, 2))):
            for order in itertools.permutations(layout.order):
                self.assertEqual(least_room(layout, order, rooms), least_room_by_words(layout, order, rooms))

    def test_it_is_enough_and_nothing_less_is(self):
        for layout in layouts_of((4, 3, 2, 1), 0):
            for rooms, order in itertools.product(((), (1,), (2,), (2, 1, 3)), itertools.permutations("abcd")):
                needed, cells, aside = least_room(layout, order, rooms)
                self.assertLessEqual(cells, needed)
                self.assertEqual(cells == 0, blocking_pair(layout, order, rooms) is None)
                self.assertEqual(cells == 0, needed <= threshold(layout, rooms))
                if cells:
                    self.assertIsNone(blocking_pair(layout, order, (*rooms, cells)))
                    self.assertIsNotNone(blocking_pair(layout, order, (*rooms, cells - 1)))
                self.assertEqual(sum(layout.size_of(name) for name in aside), cells if 0 < cells < needed else 0)


class Greatest(unittest.TestCase):
    def test_twelve_blocks_and_four_rooms_within_a_limit_of_time(self):
        chance = random.Random(6)
        for most in (10 ** 28, 8 * 10 ** 29):
            sizes = [chance.randrange(10 ** 27, most) for _ in range(10)] + [9 * 10 ** 29, 9 * 10 ** 29]
            layout = in_a_row(sizes)
            for rooms in ([], [sum(sizes[:5]) // 4] * 4, [10 ** 31] * 4, [10 ** 27] * 3 + [sizes[0]]):
                with WithinSeconds(2):
                    needed, cells, aside = least_room(layout, layout.order[::-1], rooms)
                self.assertEqual(needed, 9 * 10 ** 29)
                self.assertLessEqual(cells, needed)
                if len(rooms) < 4 and cells:
                    self.assertIsNone(blocking_pair(layout, layout.order[::-1], [*rooms, cells]))
                    self.assertIsNotNone(blocking_pair(layout, layout.order[::-1], [*rooms, cells - 1]))

    def test_blocks_of_the_same_size(self):
        layout = in_a_row((10 ** 29,) * 10 + (8 * 10 ** 29,) * 2)
        with WithinSeconds(2):
            answer = least_room(layout, layout.order[::-1], (3 * 10 ** 29,))
        self.assertEqual(answer, (8 * 10 ** 29, 5 * 10 ** 29, ("n0", "n1", "n2", "n3", "n4")))


class WrongArguments(unittest.TestCase):
    def test_order_then_rooms(self):
        for order, wrong in ((("b", "d"), (1, "block")), (("b", "b"), (1, "twice")), (("b", "a"), (None, "length"))):
            for rooms in ((), [-1], [1] * 5):
                self.assertEqual(told(least_room, EXAMPLE, order, rooms), bad_order(*wrong))
        for rooms, number in (([1] * 5, None), ([0, -1], 1), ([10 ** 31 + 1], 0)):
            self.assertEqual(told(least_room, EXAMPLE, ("b", "a", "c"), rooms), bad_rooms(number))


class Kinds(unittest.TestCase):
    def test_lists_stand_for_tuples_and_nothing_is_changed(self):
        for order, rooms in itertools.product((("b", "a", "c"), ["b", "a", "c"]), ((1, 0), [1, 0])):
            kept = copy.deepcopy((order, rooms, vars(EXAMPLE)))
            answer = least_room(EXAMPLE, order, rooms)
            self.assertEqual(answer, (3, 2, ("c",)))
            self.assertEqual(kinds_within(answer), {tuple, str, int})
            self.assertEqual((order, rooms, vars(EXAMPLE)), kept)


if __name__ == "__main__":
    unittest.main()
