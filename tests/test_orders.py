"""E2 to E4, and "letpast/orders.py" in the interface, but for least_room."""

import copy
import itertools
import math
import random
import unittest

from letpast.errors import LetError
from letpast.layouts import Layout
from letpast.orders import (
    BadOrder, NoOrder, blocking_pair, can_come_to, least_room, order_at, order_count, order_index, settled_order,
    threshold,
)
from letpast.texts import read_layout
from tests.by_words import blocking_pair_by_words, orders_by_words, threshold_by_words
from tests.support import (
    WithinSeconds, bad_order, bad_rooms, in_a_row, kinds_within, layouts_of, small_layouts, told,
)

EXAMPLE = read_layout("15 a@0+8 b@8+3 c@11+2")
# Free: 2. Greater than that are x, y and z, of which x is the smallest one; s and t are not.
MIXED = read_layout("20 x@0+3 s@3+2 y@5+4 t@10+2 z@13+7")
WITH_ORDER = (blocking_pair, order_index, least_room)
ROOMS = ((), (1,), (2,), (3,), (1, 2), (2, 2), (0, 3, 1), (1, 1, 1, 1), (0, 0, 0, 0), (9,))


def no_order():
    return ("NoOrder", {})


class Settled(unittest.TestCase):
    def test_lists_and_tuples(self):
        for given in (("c", "a", "b"), ["c", "a", "b"]):
            kept = copy.deepcopy(given)
            self.assertEqual(settled_order(EXAMPLE, given), ("c", "a", "b"))
            self.assertEqual(given, kept)

    def test_later_changes_change_nothing(self):
        order = ["c", "a", "b"]
        settled = settled_order(EXAMPLE, order)
        order.reverse()
        self.assertEqual(settled, ("c", "a", "b"))

    def test_without_blocks(self):
        self.assertEqual((settled_order(read_layout("0"), []), settled_order(read_layout("7"), ())), ((), ()))

    def test_twelve_blocks(self):
        layout = in_a_row((1,) * 12)
        self.assertEqual(settled_order(layout, layout.order[::-1]), layout.order[::-1])


class WrongOrders(unittest.TestCase):
    def refused(self, order, number, reason, layout=EXAMPLE):
        for given in (order, list(order)):
            kept = copy.deepcopy((given, vars(layout)))
            self.assertEqual(told(settled_order, layout, given), bad_order(number, reason))
            for call in WITH_ORDER:
                for rooms in ((), (2,), (-1,), (1,) * 5):
                    self.assertEqual(told(call, layout, given, rooms), bad_order(number, reason))
            self.assertEqual((given, vars(layout)), kept)

    def test_block(self):
        for name in ("d", "", "A", "aa", "a ", "no such name"):
            self.refused((name, "a", "b"), 0, "block")
            self.refused(("a", "b", name), 2, "block")
        self.refused(("a",), 0, "block", read_layout("7"))

    def test_twice(self):
        self.refused(("a", "a", "b"), 1, "twice")
        self.refused(("a", "b", "a"), 2, "twice")
        self.refused(("a", "b", "c", "b"), 3, "twice")

    def test_length(self):
        for order in ((), ("a",), ("b", "c"), ("c", "a")):
            self.refused(order, None, "length")

    def test_several_wrong_things_at_once(self):
        self.refused(("a", "a", "d"), 1, "twice")
        self.refused(("a", "d", "a"), 1, "block")
        self.refused(("a", "d", "d"), 1, "block")
        self.refused(("a", "b", "c", "d"), 3, "block")
        self.refused(("a", "b", "c", "a", "d"), 3, "twice")
        self.refused(("c", "c"), 1, "twice")
        self.refused(("d",), 0, "block")

    def test_classes_of_the_errors(self):
        for error in (BadOrder, NoOrder):
            self.assertTrue(issubclass(error, LetError))


class Thresholds(unittest.TestCase):
    def test_example(self):
        self.assertEqual((threshold(EXAMPLE, ()), threshold(EXAMPLE, (2,))), (2, 4))

    def test_free_cells_and_what_lies_in_rooms(self):
        for rooms, wanted in (
            ((0, 0, 0, 0), 2), ((1,), 2), ((3,), 5), ((4,), 5), ((5,), 7), ((1, 1, 1), 2), ((2, 2), 4), ((3, 2), 7),
            ([7], 7), ((8,), 10), ((10,), 12), ((13,), 15), ((10 ** 31,) * 4, 15), ((2, 3, 8), 15), ((2, 3, 7), 7),
        ):
            self.assertEqual(threshold(EXAMPLE, rooms), wanted, rooms)

    def test_free_cells_count_wherever_they_lie(self):
        for text in ("9 a@0+3 b@3+3", "9 a@3+3 b@6+3", "9 a@1+3 b@5+3"):
            self.assertEqual((threshold(read_layout(text), ()), threshold(read_layout(text), [3])), (3, 6))

    def test_without_blocks(self):
        self.assertEqual((threshold(read_layout("0"), [5]), threshold(read_layout("7"), [5, 10 ** 31])), (0, 7))

    def test_every_block_that_fits_a_room_is_within_it(self):
        for layout in layouts_of((3, 2, 2), 1):
            for cells in range(5):
                limit = threshold(layout, (cells,))
                self.assertTrue(all(size <= limit - layout.free for _, _, size in layout.blocks if size <= cells))

    def test_against_all_packings(self):
        for layout in small_layouts(range(7), 3):
            for rooms in ROOMS:
                self.assertEqual(threshold(layout, rooms), threshold_by_words(layout, rooms))


class BlockingPairs(unittest.TestCase):
    def look(self, layout, order, rooms, wanted):
        self.assertEqual(blocking_pair(layout, tuple(order), rooms), wanted)

    def test_example(self):
        self.look(EXAMPLE, "bac", (), ("a", "b"))
        self.look(EXAMPLE, "bac", (2,), None)
        self.look(EXAMPLE, "acb", (), None)
        self.look(EXAMPLE, "cba", (1,), ("a", "b"))

    def test_just_at_the_threshold_and_one_above(self):
        self.look(read_layout("6 a@0+2 b@2+2"), "ba", (), None)
        self.look(read_layout("5 a@0+2 b@2+2"), "ba", (), ("a", "b"))
        self.look(read_layout("5 a@0+2 b@2+1"), "ba", (), None)
        self.look(read_layout("9 a@0+4 b@4+4"), "ba", (3,), ("a", "b"))
        self.look(read_layout("9 a@0+4 b@4+4"), "ba", (4,), None)
        self.look(read_layout("11 a@0+4 b@4+4 c@8+2"), "bca", (2,), ("a", "b"))
        self.look(read_layout("11 a@0+4 b@4+4 c@8+3"), "bca", (3,), ("a", "b"))
        self.look(read_layout("12 a@0+4 b@4+4 c@8+3"), "bca", (3,), None)

    def test_without_free_cells_nothing_can_be_done_unless_there_are_rooms(self):
        self.look(read_layout("2 a@0+1 b@1+1"), "ba", (), ("a", "b"))
        self.look(read_layout("2 a@0+1 b@1+1"), "ba", (0, 0, 0, 0), ("a", "b"))
        self.look(read_layout("2 a@0+1 b@1+1"), "ba", (1,), None)

    def test_of_several_pairs_the_first_one(self):
        self.look(MIXED, "zyxst", (), ("x", "y"))
        self.look(MIXED, "zxyst", (), ("x", "z"))
        self.look(MIXED, "yzxst", (), ("x", "y"))
        self.look(MIXED, "tszxy", (), ("x", "z"))
        self.look(MIXED, "xzyts", (), ("y", "z"))
        self.look(MIXED, "tsxyz", (), None)
        self.look(MIXED, "xsyzt", (), None)

    def test_a_room_makes_some_pairs_free(self):
        # With one room of 2 cells the threshold is 4: only z is greater.
        self.look(MIXED, "zyxst", (2,), None)
        self.look(MIXED, "zyxst", (1,), ("x", "y"))

    def test_positions_count_and_not_names(self):
        self.look(read_layout("9 z@0+3 m@3+3 a@6+3"), "amz", (), ("z", "m"))
        self.look(read_layout("9 z@0+3 m@3+3 a@6+3"), "maz", (), ("z", "m"))
        self.look(read_layout("9 z@0+3 m@3+3 a@6+3"), "zam", (), ("m", "a"))

    def test_its_own_order_and_no_blocks(self):
        self.look(MIXED, MIXED.order, (), None)
        self.look(read_layout("0"), "", (), None)
        self.look(read_layout("3 a@0+3"), "a", (), None)

    def test_against_all_pairs(self):
        for layout in itertools.chain(small_layouts((5, 6), 3), layouts_of((3, 2, 2, 1), 1)):
            for rooms, order in itertools.product(ROOMS[:5], itertools.permutations(layout.order)):
                self.assertEqual(blocking_pair(layout, order, rooms), blocking_pair_by_words(layout, order, rooms))


class Targets(unittest.TestCase):
    def look(self, text, target, rooms, wanted):
        self.assertIs(told(can_come_to, read_layout(text), read_layout(target), rooms), wanted)

    def test_other_starts_and_other_orders(self):
        text = "16 a@0+8 b@8+3 c@11+2"
        self.look(text, text, (), True)
        self.look(text, "16 a@3+8 b@11+3 c@14+2", (), True)
        self.look(text, "16 b@0+3 c@4+2 a@6+8", (), True)
        self.look("15 a@0+8 b@8+3 c@11+2", "15 b@0+3 c@3+2 a@5+8", (), False)
        self.look("15 a@0+8 b@8+3 c@11+2", "15 b@2+3 c@5+2 a@7+8", [2], True)
        self.look("15 a@0+8 b@8+3 c@11+2", "15 c@1+2 a@3+8 b@12+3", (), True)

    def refused(self, text, target, rooms, wanted):
        self.assertEqual(told(can_come_to, read_layout(text), read_layout(target), rooms), wanted)

    def test_wrong_targets(self):
        for text, target, reason in (
            ("9 a@0+2 b@2+2", "8 a@0+2 b@2+2", "capacity"), ("9 a@0+2 b@2+2", "10 b@0+2 a@2+2", "capacity"),
            ("9 a@0+2 b@2+2", "9 a@0+2", "blocks"), ("9 a@0+2", "9 a@0+2 b@2+2", "blocks"), ("9", "9 a@0+2", "blocks"),
            ("9 a@0+2 b@2+2", "9 a@0+2 c@2+2", "blocks"), ("9 a@0+2 b@2+2", "9 a@0+2 b@2+3", "blocks"),
            ("9 a@0+2 b@2+3", "9 a@0+3 b@3+2", "blocks"), ("9 a@0+2 b@2+2", "8 a@0+2", "capacity"),
        ):
            for rooms in ((), [3], [-1], [1] * 5):
                self.refused(text, target, rooms, ("BadTarget", {"reason": reason}))

    def test_wrong_rooms(self):
        self.refused("9 a@0+2 b@2+2", "9 b@0+2 a@2+2", [1] * 5, bad_rooms(None))
        self.refused("9 a@0+2 b@2+2", "9 a@0+2 b@2+2", [1, -1, 10 ** 32], bad_rooms(1))

    def test_all_targets_of_some_layouts(self):
        for sizes, free, rooms in (((2, 1), 1, ()), ((2, 2), 1, ()), ((3, 2, 1), 1, (1,)), ((2, 2, 2), 1, (1,))):
            layouts = list(layouts_of(sizes, free))
            for layout, target in itertools.product(layouts, layouts):
                wanted = blocking_pair_by_words(layout, target.order, rooms) is None
                self.assertIs(can_come_to(layout, target, rooms), wanted)


class Counts(unittest.TestCase):
    def test_how_many(self):
        for sizes, free, rooms, wanted in (
            ((), 0, (), 1), ((), 7, (3,), 1), ((5,), 0, (), 1), ((5,), 5, (), 1), ((2, 2), 1, (), 1), ((2, 2), 2, (), 2),
            ((8, 3, 2), 2, (), 3), ((8, 3, 2), 2, (2,), 6), ((8, 3, 2), 1, (), 1), ((8, 3, 2), 3, (), 6),
            ((3, 2, 4, 2, 7), 2, (), 20), ((3, 2, 4, 2, 7), 2, (2,), 120), ((9,) * 12, 8, (), 1), ((1,) * 12, 0, (), 1),
            ((1,) * 12, 1, (), math.factorial(12)), ((1,) * 6 + (2,) * 6, 1, (), math.factorial(12) // 720),
        ):
            self.assertEqual(order_count(in_a_row(sizes, free), rooms), wanted, (sizes, free, rooms))

    def test_orders_by_index(self):
        layout = read_layout("9 a@0+3 b@3+4 c@7+1")
        orders = [("a", "b", "c"), ("a", "c", "b"), ("c", "a", "b")]
        self.assertEqual([order_at(layout, (), index) for index in range(3)], orders)
        self.assertEqual([order_index(layout, order, ()) for order in orders], [0, 1, 2])
        self.assertIsNone(order_index(layout, ("b", "a", "c"), ()))

    def test_positions_count_and_not_names(self):
        layout = read_layout("9 z@0+1 m@3+1 a@7+1")
        orders = [("z", "m", "a"), ("z", "a", "m"), ("m", "z", "a"), ("m", "a", "z"), ("a", "z", "m"), ("a", "m", "z")]
        self.assertEqual([order_at(layout, (), index) for index in range(6)], orders)
        self.assertEqual([order_index(layout, order, ()) for order in orders], list(range(6)))

    def test_the_order_of_the_layout_has_the_index_0(self):
        for layout in small_layouts((4, 5, 6), 3):
            for rooms in ROOMS[:3]:
                self.assertEqual(order_at(layout, rooms, 0), layout.order)
                self.assertEqual(order_index(layout, layout.order, rooms), 0)

    def test_first_and_last_index_and_one_beyond(self):
        for layout, rooms, count, last in (
            (read_layout("0"), (), 1, ()), (read_layout("3 a@0+3"), (), 1, ("a",)),
            (EXAMPLE, (), 3, ("c", "a", "b")), (EXAMPLE, (2,), 6, ("c", "b", "a")), (EXAMPLE, [0], 3, ("c", "a", "b")),
            (MIXED, (), 20, ("t", "s", "x", "y", "z")), (in_a_row((9,) * 12), (), 1, None),
        ):
            self.assertEqual(order_count(layout, rooms), count)
            self.assertEqual(order_at(layout, rooms, 0), layout.order)
            self.assertEqual(order_at(layout, rooms, count - 1), last or layout.order)
            for index in (-1, count, count + 1, 10 ** 40, -(10 ** 40)):
                self.assertEqual(told(order_at, layout, rooms, index), no_order())

    def test_of_great_blocks_only_those_in_their_order(self):
        self.assertIsNone(order_index(MIXED, tuple("xszyt"), ()))
        self.assertEqual(order_index(MIXED, tuple("xsytz"), ()), 0)
        self.assertEqual(order_index(MIXED, tuple("xsyzt"), ()), 1)
        self.assertEqual(order_index(MIXED, tuple("xstyz"), ()), 2)
        self.assertEqual(order_index(MIXED, tuple("xystz"), ()), 3)
        self.assertEqual(order_at(MIXED, (), 3), tuple("xystz"))

    def test_against_all_orders(self):
        layouts = [*small_layouts((5,), 3), *layouts_of((2, 1, 1), 1), in_a_row((3, 2, 2, 1), 1), in_a_row((1, 2, 3, 4), 2)]
        for layout, rooms in itertools.product(layouts, ROOMS):
            orders = orders_by_words(layout, rooms)
            self.assertEqual(order_count(layout, rooms), len(orders))
            self.assertEqual([order_at(layout, rooms, index) for index in range(len(orders))], orders)
            for order in itertools.permutations(layout.order):
                wanted = orders.index(order) if order in orders else None
                self.assertEqual(order_index(layout, order, rooms), wanted)

    def test_greater_rooms_and_more_of_them_never_make_orders_fewer(self):
        for sizes, free in (((4, 3, 2, 1), 1), ((3, 3, 2, 2), 0)):
            layout = in_a_row(sizes, free)
            for rooms in itertools.product(range(5), repeat=2):
                count = order_count(layout, rooms)
                for more in ((rooms[0] + 1, rooms[1]), (rooms[0], rooms[1] + 1), (*rooms, 1), (2, *rooms)):
                    self.assertGreaterEqual(order_count(layout, more), count)


class Greatest(unittest.TestCase):
    def test_twelve_blocks_and_four_rooms_within_a_limit_of_time(self):
        chance = random.Random(4)
        for least in (10 ** 27, 7 * 10 ** 29):
            sizes = [chance.randrange(least, 8 * 10 ** 29) for _ in range(12)]
            layout = in_a_row(sizes, 10 ** 26)
            rooms = [sum(sizes) // 5, sum(sizes) // 7, 10 ** 28, sum(sizes) // 6]
            order = layout.order[::-1]
            with WithinSeconds(4):
                limit = threshold(layout, rooms)
                count = order_count(layout, rooms)
                last = order_at(layout, rooms, count - 1)
                pair = blocking_pair(layout, order, rooms)
                self.assertEqual(order_index(layout, last, rooms), count - 1)
                self.assertEqual(order_index(layout, order, rooms) is None, pair is not None)
            great = [name for name, _, size in layout.blocks if size > limit]
            self.assertEqual(count, math.factorial(12) // math.factorial(len(great)))
            self.assertEqual(pair is None, len(great) < 2)

    def test_indices_of_twelve_blocks(self):
        chance = random.Random(5)
        layout = in_a_row((10 ** 29,) * 8 + (10 ** 29 + 1,) * 4, 10 ** 29)
        count = math.factorial(12) // math.factorial(4)
        for index in [0, 1, count - 2, count - 1, *(chance.randrange(count) for _ in range(20))]:
            order = order_at(layout, (), index)
            self.assertEqual([name for name in order if name in ("n8", "n9", "n10", "n11")], ["n8", "n9", "n10", "n11"])
            self.assertEqual(order_index(layout, order, ()), index)
        self.assertEqual(order_at(layout, (), count - 1), layout.order[8:] + layout.order[:8][::-1])
        self.assertEqual(told(order_at, layout, (), count), no_order())

    def test_greatest_layout(self):
        layout = Layout(10 ** 31, [(f"n{number}", number * 10 ** 30, 10 ** 30) for number in range(10)])
        self.assertEqual((threshold(layout, ()), order_count(layout, ())), (0, 1))
        self.assertEqual(order_count(layout, (10 ** 30 - 1,) * 4), 1)
        self.assertEqual(order_count(layout, (10 ** 30,)), math.factorial(10))
        self.assertEqual(threshold(layout, (10 ** 31,)), 10 ** 31)


class WrongArguments(unittest.TestCase):
    def test_wrong_rooms(self):
        calls = (
            lambda rooms: threshold(EXAMPLE, rooms), lambda rooms: blocking_pair(EXAMPLE, ("b", "a", "c"), rooms),
            lambda rooms: can_come_to(EXAMPLE, EXAMPLE, rooms), lambda rooms: order_count(EXAMPLE, rooms),
            lambda rooms: order_at(EXAMPLE, rooms, 0), lambda rooms: order_index(EXAMPLE, ("b", "a", "c"), rooms),
        )
        for call in calls:
            for rooms, number in (([1] * 5, None), ([-1] * 5, None), ((0, -1, -1), 1), ([10 ** 31 + 1], 0)):
                kept = copy.deepcopy((rooms, vars(EXAMPLE)))
                self.assertEqual(told(call, rooms), bad_rooms(number))
                self.assertEqual((rooms, vars(EXAMPLE)), kept)

    def test_several_wrong_things_at_once(self):
        for index in (-1, 3, 10 ** 40):
            self.assertEqual(told(order_at, EXAMPLE, [2, -1], index), bad_rooms(1))
            self.assertEqual(told(order_at, EXAMPLE, [2] * 5, index), bad_rooms(None))
        self.assertEqual(told(order_at, EXAMPLE, [2], 6), no_order())


class Kinds(unittest.TestCase):
    def test_lists_stand_for_tuples_and_nothing_is_changed(self):
        for order, rooms in itertools.product((("b", "a", "c"), ["b", "a", "c"]), ((1, 0), [1, 0])):
            kept = copy.deepcopy((order, rooms, vars(EXAMPLE)))
            answers = (
                settled_order(EXAMPLE, order), threshold(EXAMPLE, rooms), blocking_pair(EXAMPLE, order, rooms),
                can_come_to(EXAMPLE, EXAMPLE, rooms), order_count(EXAMPLE, rooms), order_at(EXAMPLE, rooms, 2),
                order_index(EXAMPLE, order, rooms), order_index(EXAMPLE, list(EXAMPLE.order), rooms),
            )
            self.assertEqual(answers, (("b", "a", "c"), 2, ("a", "b"), True, 3, ("c", "a", "b"), None, 0))
            self.assertEqual(kinds_within(answers), {tuple, str, int, bool, type(None)})
            self.assertEqual((order, rooms, vars(EXAMPLE)), kept)


if __name__ == "__main__":
    unittest.main()
