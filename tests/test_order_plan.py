"""F3 to F5, and order_plan of "letpast/crossings.py" in the interface."""

import copy
import itertools
import random
import unittest

from letpast.crossings import crossed, order_plan
from letpast.layouts import Layout
from letpast.orders import blocking_pair, order_at, order_count
from letpast.plans import checked
from letpast.texts import read_layout, write_layout
from tests.by_words import order_plan_by_words, staying_by_words
from tests.support import (
    WithinSeconds, bad_order, bad_rooms, in_a_row, kinds_within, layouts_of, room, small_layouts, told,
)

EXAMPLE = read_layout("15 a@0+8 b@8+3 c@11+2")


class Plans(unittest.TestCase):
    def look(self, text, order, rooms, *wanted):
        layout = read_layout(text)
        self.assertEqual(order_plan(layout, tuple(order), rooms), wanted)
        behind, names, fault = checked(layout, wanted, rooms)
        self.assertEqual((behind.order, any(names), fault), (tuple(order), False, None))

    def test_examples(self):
        self.look(
            "12 a@0+9 b@9+1 c@10+1", "bca", (),
            ("c", 11), ("b", 10), ("a", 1), ("b", 0), ("a", 2), ("c", 1),
        )
        self.look(
            "15 a@0+8 b@8+3 c@11+2", "bac", (2,),
            ("c", room(0)), ("b", 12), ("a", 4), ("b", 0), ("a", 3), ("c", 11),
        )

    def test_nothing_to_carry(self):
        for text in ("15 a@0+8 b@8+3 c@11+2", "15 c@1+8 b@10+3", "0", "7", "3 a@0+3"):
            for rooms in ((), (2,), (10 ** 31,) * 4):
                self.look(text, read_layout(text).order, rooms)

    def test_none_just_where_the_order_cannot_be_come_to(self):
        for text, order, rooms in (
            ("15 a@0+8 b@8+3 c@11+2", "bac", ()), ("15 a@0+8 b@8+3 c@11+2", "bac", (1,)), ("2 a@0+1 b@1+1", "ba", ()),
            ("5 a@0+2 b@2+2", "ba", ()), ("5 a@0+2 b@2+2", "ba", (1, 1, 1, 1)),
        ):
            self.assertIsNone(order_plan(read_layout(text), tuple(order), rooms))
        self.assertIsNotNone(order_plan(read_layout("6 a@0+2 b@2+2"), ("b", "a"), ()))
        self.assertIsNotNone(order_plan(read_layout("5 a@0+2 b@2+2"), ("b", "a"), (2,)))

    def test_a_block_within_the_free_cells_does_not_go_into_a_room(self):
        # a stays, as the first one of the two; b is put ahead of it.
        self.look("4 a@0+2 b@2+1", "ba", (9, 9), ("b", 3), ("a", 1), ("b", 0))

    def test_a_block_that_just_fits_the_free_cells_and_one_above(self):
        self.look("8 a@0+3 b@3+2", "ba", (2,), ("b", 6), ("a", 3), ("b", 0))
        self.look("7 a@0+3 b@3+2", "ba", (2,), ("b", 5), ("a", 2), ("b", 0))
        self.look("6 a@0+3 b@3+2", "ba", (2,), ("b", room(0)), ("a", 3), ("b", 0))
        self.look("5 a@0+3 b@3+2", "ba", (2,), ("b", room(0)), ("a", 2), ("b", 0))

    def test_into_the_first_room_with_enough_cells(self):
        plan = (("a", 2), ("b", 0))
        self.look("5 a@0+3 b@3+2", "ba", (1, 9, 2, 2), ("b", room(1)), *plan)
        self.look("5 a@0+3 b@3+2", "ba", (1, 0, 2, 9), ("b", room(2)), *plan)
        self.look("5 a@0+3 b@3+2", "ba", (0, 1, 1, 2), ("b", room(3)), *plan)
        self.look("6 a@0+3 b@3+2 c@5+1", "bac", (1, 2), ("b", room(1)), ("a", 2), ("b", 0))

    def test_steps_to_where_the_block_is_are_left_out(self):
        self.look("9 a@0+2 b@4+1 c@8+1", "bac", (), ("b", 7), ("a", 5), ("b", 0))
        self.look("9 a@5+2 b@7+1 c@8+1", "bac", (), ("b", 0))
        self.look("9 a@1+2 b@4+1 c@7+1", "bac", (), ("c", 8), ("b", 7), ("a", 5), ("b", 0))
        self.look("9 a@0+2 b@2+1 c@3+1", "bca", (), ("a", 4))

    def test_a_block_that_lies_among_those_that_are_gathered_is_moved_with_them(self):
        self.look("9 a@1+2 b@4+1 c@7+1", "bca", (), ("a", 0), ("b", 2), ("c", 3), ("a", 4))
        self.look("9 a@1+1 b@3+1 c@5+1 d@7+1", "bcad", (), ("a", 0), ("b", 1), ("c", 2), ("d", 8), ("a", 3))

    def test_of_several_sets_that_could_stay_the_first_one(self):
        self.look("9 a@0+1 b@2+1 c@4+1", "acb", (), ("c", 8), ("b", 7), ("c", 1))
        self.look("9 z@0+1 y@2+1", "yz", (), ("y", 8), ("z", 7), ("y", 0))

    def test_those_that_are_greater_than_the_threshold_stay(self):
        # Two, a and c, could stay; but b must.
        self.look(
            "10 a@0+1 c@1+1 b@2+7", "bac", (),
            ("a", 9), ("c", 0), ("b", 1), ("a", 8), ("c", 9),
        )
        self.look(
            "12 a@0+3 b@3+1 c@4+7", "cab", (3,),
            ("a", room(0)), ("b", 0), ("c", 1), ("a", 8), ("b", 11),
        )
        # With another room c need not stay.
        self.look("12 a@0+3 b@3+1 c@4+7", "cab", (7,), ("c", room(0)), ("b", 11), ("a", 8), ("c", 0))

    def test_one_after_the_other_in_the_sequence_of_the_order(self):
        self.look("5 a@0+1 b@1+1 c@2+1 d@3+1", "badc", (), ("d", 4), ("c", 3), ("b", 2), ("a", 1), ("b", 0), ("d", 2))
        self.look(
            "6 a@0+1 b@1+1 c@2+1 d@3+1", "dcab", (),
            ("d", 5), ("c", 4), ("b", 3), ("a", 2), ("d", 0), ("c", 5), ("b", 4), ("a", 3), ("c", 1),
        )

    def test_others_make_room(self):
        # x is greater than the free cells and both rooms: c and d make room.
        self.look(
            "14 a@0+6 x@6+4 c@10+2 d@12+1", "xacd", (2, 1),
            ("c", room(0)), ("d", room(1)), ("x", 10), ("a", 4), ("x", 0), ("c", 10), ("d", 12),
        )

    def test_of_the_packings_the_first_one_with_the_most_cells(self):
        text = "16 a@0+6 x@6+4 c@10+2 d@12+2"
        self.look(text, "xacd", (2,), ("c", room(0)), ("d", 14), ("x", 10), ("a", 4), ("x", 0), ("c", 10))
        self.look(
            text, "xacd", (3, 2),
            ("c", room(0)), ("d", room(1)), ("x", 12), ("a", 6), ("x", 0), ("a", 4), ("c", 10), ("d", 12),
        )
        self.look(
            "17 a@0+7 x@7+4 c@11+1 d@12+2 e@14+2", "xacde", (3,),
            ("c", room(0)), ("d", room(0)), ("e", 15), ("x", 11), ("a", 4), ("x", 0), ("c", 11), ("d", 12),
        )

    def test_those_aside_are_put_in_the_wanted_sequence_for_the_block(self):
        self.look(
            "15 s@0+1 a@1+5 x@6+5 t@11+3", "sxat", (4,),
            ("s", room(0)), ("t", room(0)), ("x", 10), ("a", 5), ("x", 0),
            ("a", 10), ("x", 5), ("s", 0), ("x", 1), ("a", 6), ("t", 11),
        )

    def test_the_packing_goes_by_the_starts_at_first(self):
        # b is carried to the front first, and s is ahead of b in the layout: s lies in the room.
        plan = order_plan(read_layout("18 s@0+2 a@2+6 b@8+2 x@10+5"), tuple("bsxa"), (2,))
        self.assertEqual(plan[:4], (("x", 13), ("b", 11), ("a", 5), ("s", 3)))
        self.assertEqual([step for step in plan if step[1] == room(0)], [("s", room(0))])


class SecondWay(unittest.TestCase):
    def check(self, layout, order, rooms):
        plan = order_plan(layout, order, rooms)
        text = write_layout(layout)
        self.assertEqual(plan, order_plan_by_words(layout, text, order, rooms), (text, order, rooms))
        self.assertEqual(plan is None, blocking_pair(layout, order, rooms) is not None)
        if plan is not None:
            behind, names, fault = checked(layout, plan, rooms)
            self.assertEqual((behind.order, any(names), fault), (order, False, None))
            if not rooms:
                self.cross(layout, order, plan)

    def cross(self, layout, order, plan):
        """Without rooms all blocks cross but for the most that can stay."""
        great = [name for name, _, size in layout.blocks if size > layout.free]
        stay = staying_by_words(layout, order, great, [1] * len(order))
        self.assertEqual(crossed(layout, plan), tuple(name for name in layout.order if name not in stay))

    def test_all_orders_of_small_layouts(self):
        rows = ((), (1,), (2, 1), (0, 3), (1, 1, 1, 1))
        layouts = [*small_layouts((4, 6), 3), *layouts_of((2, 1, 3), 1), *layouts_of((2, 2, 3), 2)]
        for layout, rooms in itertools.product(layouts, rows):
            for order in itertools.permutations(layout.order):
                self.check(layout, order, rooms)

    def test_all_orders_of_some_layouts_of_four_blocks(self):
        for text in ("11 a@0+4 b@4+3 c@7+2 d@9+1", "12 a@1+4 b@5+1 c@7+4 d@11+1", "9 a@0+2 b@2+2 c@4+2 d@6+2"):
            layout = read_layout(text)
            for rooms in ((), (1,), (2,), (3,), (2, 3), (2, 1), (1, 1, 2), (4, 2, 0, 1)):
                for order in itertools.permutations(layout.order):
                    self.check(layout, order, rooms)

    def test_chance_orders_of_more_blocks(self):
        chance = random.Random(9)
        for number in range(60):
            layout = in_a_row([chance.randrange(1, 7) for _ in range(6)], chance.randrange(4))
            rooms = tuple(chance.randrange(5) for _ in range(number // 2 % 3))
            index = chance.randrange(order_count(layout, rooms))
            self.check(layout, order_at(layout, rooms, index), rooms)


class Greatest(unittest.TestCase):
    def test_twelve_blocks_and_four_rooms_within_a_limit_of_time(self):
        chance = random.Random(10)
        for least, most in ((1, 8 * 10 ** 29), (7 * 10 ** 29, 8 * 10 ** 29), (8 * 10 ** 29, 8 * 10 ** 29 + 1)):
            sizes = [chance.randrange(least, most) for _ in range(12)]
            layout = in_a_row(sizes, chance.randrange(10 ** 29))
            small = sorted(sizes)[3]
            for rooms in ([10 ** 31] * 4, [small] * 4, [small, sorted(sizes)[5], small, 0], [sorted(sizes)[-1], 0, 0, small]):
                last = order_at(layout, rooms, order_count(layout, rooms) - 1)
                with WithinSeconds(3):
                    plan = order_plan(layout, last, rooms)
                behind, names, fault = checked(layout, plan, rooms)
                self.assertEqual((behind.order, any(names), fault), (last, False, None))

    def test_twelve_blocks_without_rooms(self):
        layout = in_a_row((7 * 10 ** 29,) * 12, 7 * 10 ** 29)
        with WithinSeconds(3):
            plan = order_plan(layout, layout.order[::-1], ())
        self.assertEqual(checked(layout, plan, ())[0].order, layout.order[::-1])
        self.assertEqual(set(crossed(layout, plan)), set(layout.order[1:]))
        tight = Layout(layout.capacity - 1, layout.blocks)
        self.assertIsNone(order_plan(tight, layout.order[::-1], ()))
        self.assertIsNone(order_plan(tight, layout.order[::-1], (7 * 10 ** 29 - 1,) * 4))

    def test_many_that_make_room(self):
        # Each of six great blocks is carried over another one with the help of six small ones.
        layout = in_a_row((10 ** 29,) * 6 + (7 * 10 ** 29,) * 6, 10 ** 29)
        order = layout.order[:5:-1] + layout.order[5::-1]
        with WithinSeconds(3):
            plan = order_plan(layout, order, (2 * 10 ** 29, 10 ** 29, 2 * 10 ** 29, 10 ** 29))
        behind, names, fault = checked(layout, plan, (2 * 10 ** 29, 10 ** 29, 2 * 10 ** 29, 10 ** 29))
        self.assertEqual((behind.order, any(names), fault), (order, False, None))
        self.assertIsNone(order_plan(layout, order, (2 * 10 ** 29, 10 ** 29, 10 ** 29, 10 ** 29)))


class WrongArguments(unittest.TestCase):
    def test_order_then_rooms(self):
        for order, wrong in ((("b", "d"), (1, "block")), (("b", "b"), (1, "twice")), (("b", "a"), (None, "length"))):
            for rooms in ((), [-1], [1] * 5):
                self.assertEqual(told(order_plan, EXAMPLE, order, rooms), bad_order(*wrong))
        for order in (("b", "a", "c"), ("a", "b", "c")):
            for rooms, number in (([1] * 5, None), ([0, -1], 1), ([10 ** 31 + 1], 0)):
                self.assertEqual(told(order_plan, EXAMPLE, order, rooms), bad_rooms(number))


class Kinds(unittest.TestCase):
    def test_lists_stand_for_tuples_and_nothing_is_changed(self):
        for order, rooms in itertools.product((("b", "a", "c"), ["b", "a", "c"]), ((1, 2), [1, 2])):
            kept = copy.deepcopy((order, rooms, vars(EXAMPLE)))
            plan = order_plan(EXAMPLE, order, rooms)
            self.assertEqual(plan, (("c", room(1)), ("b", 12), ("a", 4), ("b", 0), ("a", 3), ("c", 11)))
            self.assertEqual(kinds_within(plan), {tuple, str, int})
            self.assertEqual(order_plan(EXAMPLE, order, rooms), plan)
            self.assertEqual((order, rooms, vars(EXAMPLE)), kept)


if __name__ == "__main__":
    unittest.main()
