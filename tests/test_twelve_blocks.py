"""E2 to E4 for layouts of the most blocks that there can be, and how long such calls take."""

import itertools
import math
import random
import unittest

from letpast.layouts import Layout
from letpast.orders import blocking_pair, can_come_to, order_at, order_count, order_index, threshold
from letpast.packing import packed
from tests.by_words import blocking_pair_above, most_set_by_set, orders_keeping, packed_by_words, threshold_by_words
from tests.support import WithinSeconds, in_a_row, told

SMALL = (3, 7, 5, 9, 2, 8, 6, 4, 7, 5, 3, 9)
DOUBLING = (64, 2, 1024, 8, 1, 256, 32, 2048, 4, 512, 16, 128)
UNLIKE = (1013, 977, 1002, 31, 954, 968, 1049, 17, 990, 1031, 946, 1024)
WIDE = Layout(200, [(f"b{number}", 10 * number, size) for number, size in enumerate(SMALL)])


def great_sizes(seed, least):
    """Twelve sizes, so great that a layout of them can just have so many cells."""
    chance = random.Random(seed)
    return tuple(chance.randrange(least, 83 * 10 ** 28) for _ in range(12))


def rooms_for(sizes):
    """No room, one, four, and rooms that just take all blocks, or all but a cell."""
    total, greatest = sum(sizes), max(sizes)
    dealt = [sum(sizes[number::4]) for number in range(4)]
    return (
        (), (min(sizes),), (sizes[3],), (greatest - 1,), (total // 3,), (total // 2, total // 3), (min(sizes) - 1,) * 4,
        (sizes[8], sizes[3] - 1), [sizes[3] + sizes[8], sizes[1] - 1, sizes[1], sizes[6]],
        (sizes[0], sizes[4] + sizes[7], sizes[3], sizes[1] + sizes[2]), [total // 5, total // 6, total // 7, greatest],
        [greatest + min(sizes)] * 4, dealt, [*dealt[:3], dealt[3] - 1], (total,), (total - 1,), [10 ** 31] * 4,
    )


def laid_out(layout, order, behind):
    """The blocks of a layout in an order, with all free cells behind the first ones."""
    blocks, end = [], 0
    for number, name in enumerate(order):
        start = end + (layout.free if number == behind else 0)
        end = start + layout.size_of(name)
        blocks.append((name, start, end - start))
    return Layout(layout.capacity, blocks)


def some_orders(layout, great, chance):
    """Orders of all kinds: its own and the reverse one, neighbours in each other's place, and some by chance."""
    names = layout.order
    orders = [names, names[::-1], (*names[1:], names[0]), (names[-1], *names[:-1])]
    for at in range(11):
        orders.append((*names[:at], names[at + 1], names[at], *names[at + 2:]))
    for _ in range(4):
        mixed = chance.sample(names, 12)
        orders.append(tuple(mixed))
        # The same, but with the great blocks in the order of the layout.
        waiting = iter([name for name in names if name in great])
        orders.append(tuple(next(waiting) if name in great else name for name in mixed))
    return orders


class AnotherWay(unittest.TestCase):
    """Each answer for twelve blocks, against one that is found in another way."""

    @classmethod
    def setUpClass(cls):
        layouts = [WIDE, in_a_row(SMALL, 2), in_a_row(UNLIKE, 0), in_a_row(UNLIKE[::-1], 40), in_a_row(DOUBLING, 3)]
        layouts += [in_a_row(great_sizes(1, 1), 10 ** 28), in_a_row(great_sizes(2, 8 * 10 ** 29), 5)]
        cls.cases = []
        for layout in layouts:
            sizes = [size for _, _, size in layout.blocks]
            for rooms in rooms_for(sizes):
                limit = layout.free + most_set_by_set(sizes, rooms)
                great = [name for name, _, size in layout.blocks if size > limit]
                cls.cases.append((layout, rooms, limit, great))

    def test_cases_of_all_kinds(self):
        self.assertLessEqual({0, 1, 2, 4, 6, 8, 9, 10, 11, 12}, {len(great) for _, _, _, great in self.cases})

    def test_thresholds(self):
        for layout, rooms, limit, _ in self.cases:
            self.assertEqual(threshold(layout, rooms), limit, (layout.blocks, rooms))

    def test_counts(self):
        for layout, rooms, _, great in self.cases:
            count = math.factorial(12) // math.factorial(len(great))
            self.assertEqual(order_count(layout, rooms), count, (layout.blocks, rooms))
            for index in (-1, count, count + 1):
                self.assertEqual(told(order_at, layout, rooms, index), ("NoOrder", {}))

    def test_first_and_last_orders(self):
        for layout, rooms, _, great in self.cases:
            count = math.factorial(12) // math.factorial(len(great))
            for index, order in enumerate(itertools.islice(orders_keeping(great, layout.order), 9)):
                self.assertEqual(order_at(layout, rooms, index), order)
                self.assertEqual(order_index(layout, order, rooms), index)
            for index, order in enumerate(itertools.islice(orders_keeping(great, layout.order, turned=True), 9)):
                self.assertEqual(order_at(layout, rooms, count - 1 - index), order)
                self.assertEqual(order_index(layout, order, rooms), count - 1 - index)

    def test_all_orders_where_there_are_not_many(self):
        told_in_full = 0
        for layout, rooms, _, great in self.cases:
            if 1 < 12 - len(great) < 4:
                orders = list(orders_keeping(great, layout.order))
                told_in_full += 1
                self.assertEqual(order_count(layout, rooms), len(orders))
                for index in range(0, len(orders), 5):
                    self.assertEqual(order_at(layout, rooms, index), orders[index])
                    self.assertEqual(order_index(layout, orders[index], rooms), index)
        self.assertGreater(told_in_full, 3)

    def test_orders_between(self):
        chance = random.Random(3)
        for layout, rooms, _, great in self.cases:
            count = math.factorial(12) // math.factorial(len(great))
            indices = sorted(chance.randrange(count) for _ in range(4))
            orders = [order_at(layout, rooms, index) for index in indices]
            positions = [[layout.order.index(name) for name in order] for order in orders]
            self.assertEqual(positions, sorted(positions))
            self.assertEqual([order_index(layout, order, rooms) for order in orders], indices)
            for order in orders:
                self.assertEqual(sorted(order), sorted(layout.order))
                self.assertEqual([name for name in order if name in great], great)

    def test_blocking_pairs_and_targets(self):
        chance = random.Random(4)
        for layout, rooms, limit, great in self.cases:
            for order in some_orders(layout, great, chance):
                pair = blocking_pair_above(limit, layout, order)
                self.assertEqual(blocking_pair(layout, order, rooms), pair)
                self.assertIs(can_come_to(layout, laid_out(layout, order, chance.randrange(12)), rooms), pair is None)
                self.assertEqual(order_index(layout, order, rooms) is None, pair is not None)

    def test_example_of_many_sizes(self):
        self.assertEqual(threshold(WIDE, [7, 11, 5, 9]), 164)
        self.assertEqual((threshold(WIDE, []), threshold(WIDE, [1] * 4), threshold(WIDE, [68])), (132, 132, 200))
        self.assertEqual((threshold(WIDE, [67]), threshold(WIDE, [33, 33]), threshold(WIDE, [34, 34])), (198, 198, 200))


class AllWays(unittest.TestCase):
    """Thresholds of few blocks, against all ways to put the sizes into the rooms."""

    def test_unlike_sizes(self):
        chance = random.Random(5)
        for _ in range(40):
            sizes = [chance.choice((1, 2, 5, 6, 7, 11, 23, 10 ** 30 - 4)) for _ in range(chance.randrange(3, 6))]
            layout = in_a_row(sizes, chance.randrange(4))
            rooms = [max(0, sum(chance.sample(sizes, chance.randrange(1, 4))) - chance.randrange(3)) for _ in range(4)]
            for count in range(5):
                wanted = threshold_by_words(layout, rooms[:count])
                self.assertEqual(threshold(layout, rooms[:count]), wanted, (sizes, rooms[:count]))
                self.assertEqual(wanted, layout.free + most_set_by_set(sizes, rooms[:count]))

    def test_all_fit_but_not_the_greatest_ones_first_each_in_the_first_room_with_enough_cells(self):
        for sizes, rooms in (
            ((5, 4, 3), (7, 5)), ((3, 4, 5), (7, 5)), ((6, 5, 4, 3, 3), (11, 10)), ((4, 4, 3, 3, 2), (10, 6)),
            ((3, 3, 2, 2, 2), (7, 5)), ((2, 2, 2, 3, 3), (5, 7)), ((9, 8, 7, 6), (14, 7, 9)), ((7, 6, 5, 5, 4), (9, 5, 13)),
        ):
            wanted = packed_by_words(sizes, rooms)
            self.assertEqual(packed(sizes, rooms), wanted)
            self.assertEqual(threshold(in_a_row(sizes, 1), rooms), 1 + wanted[0])


class ManyQuestions(unittest.TestCase):
    """Some hundred calls, each time within about ten times the seconds that they took when this was written."""

    def ask(self, layout, rows, times):
        order, target = layout.order[::-1], laid_out(layout, layout.order[::-1], 5)
        for rooms in rows * times:
            threshold(layout, rooms)
            order_at(layout, rooms, order_count(layout, rooms) - 1)
            order_index(layout, order, rooms)
            blocking_pair(layout, order, rooms)
            can_come_to(layout, target, rooms)

    def test_small_sizes(self):
        rows = [[], [11], [7, 11, 5, 9], [68], [33, 33], [34, 34], [30, 20, 10, 8], [17] * 4, [10 ** 31] * 4]
        for layout in (WIDE, in_a_row(SMALL, 2)):
            with WithinSeconds(2):
                self.ask(layout, rows, 10)

    def test_no_rooms_or_rooms_for_all_blocks(self):
        for layout in (WIDE, in_a_row(UNLIKE, 0), in_a_row(great_sizes(6, 1), 0)):
            with WithinSeconds(1):
                self.ask(layout, [(), (0, 0, 0, 0), (layout.capacity,), (10 ** 31,) * 4], 25)

    def test_great_sizes(self):
        for least in (1, 10 ** 29, 7 * 10 ** 29, 82 * 10 ** 28):
            sizes = great_sizes(least, least)
            most, total = max(sizes), sum(sizes)
            # Into some of the rooms six or five blocks go, of which there are the most sets.
            rows = [
                [total // 2], [most * 4], [total // 4] * 4, [total // 2 + most // 3, total // 2 - most // 3],
                [total // 5, total // 9, total // 3, total // 7], [most] * 4, [most * 5 // 2] * 4, [total // 3 - 1] * 3,
            ]
            with WithinSeconds(2):
                self.ask(in_a_row(sizes, 10 ** 25), rows, 5)


if __name__ == "__main__":
    unittest.main()
