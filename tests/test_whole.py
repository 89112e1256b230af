"""[0.2] over the whole program: its answers are held against one another, and against a full search of all states."""

import itertools
import math
import unittest

from letpast.crossings import crossed, fewest_crossings, order_plan
from letpast.layouts import Layout
from letpast.orders import blocking_pair, can_come_to, least_room, order_at, order_count, order_index, threshold
from letpast.plans import checked, joined, reversed_plan, states_of
from letpast.slides import slides
from letpast.texts import write_layout
from letpast.yards import replayed
from tests.by_words import subsets
from tests.search import crossing_sets, groups
from tests.support import told

# Sizes, free cells, and rooms.
CASES = (
    ((), 3, ()), ((2,), 0, (1,)), ((2, 1), 0, ()), ((2, 2), 1, ()), ((2, 1), 1, (1,)), ((2, 2), 1, (1, 1)), ((3, 3), 0, (2,)),
    ((3, 2, 1), 0, ()), ((3, 2, 1), 1, ()), ((3, 2, 1), 2, ()), ((3, 2, 1), 3, ()), ((2, 2, 2), 1, ()), ((2, 2, 2), 2, ()),
    ((3, 2, 1), 0, (1,)), ((3, 2, 1), 1, (1,)), ((3, 2, 1), 0, (2, 1)), ((3, 3, 1), 1, (1,)), ((3, 3, 1), 2, (1,)),
    ((3, 3, 1), 1, (0, 3)), ((4, 3, 2), 0, (1, 2)), ((4, 3, 2), 1, (2,)), ((2, 2, 2), 1, (1, 1, 1)), ((4, 4, 1), 0, (1, 1, 2)),
    ((3, 3, 1, 1), 1, ()), ((3, 3, 1, 1), 1, (1,)), ((3, 3, 1, 1), 1, (1, 1)), ((4, 3, 2, 1), 1, (2,)), ((2, 2, 2, 2), 1, ()),
    ((4, 4, 2, 1), 0, (3,)), ((4, 4, 2, 1), 1, (2, 1)), ((1, 1, 1, 1), 0, (1,)), ((3, 2, 2, 1), 2, ()), ((2, 2, 1, 1), 0, (1, 1, 1)),
)


def layout_of(state, sizes, capacity):
    return Layout(capacity, [(name, start, size) for name, start, size in zip("abcd", state, sizes)])


def searched(sizes, free, rooms):
    """The groups of all layouts that can come to one another."""
    capacity = sum(sizes) + free
    return [[layout_of(state, sizes, capacity) for state in group] for group in groups(sizes, capacity, rooms)]


class FullSearch(unittest.TestCase):
    def test_orders_that_can_be_come_to_and_then_every_layout_in_them(self):
        for sizes, free, rooms in CASES:
            for group in searched(sizes, free, rooms):
                orders = {layout.order for layout in group}
                # In each order of a group all layouts are in it, so as many as there are rows of gaps.
                self.assertEqual(len(group), len(orders) * math.comb(free + len(sizes), free))
                for layout in group[::5]:
                    self.orders(layout, rooms, orders)

    def orders(self, layout, rooms, orders):
        limit = threshold(layout, rooms)
        great = [name for name, _, size in layout.blocks if size > limit]
        keeping = [order for order in itertools.permutations(layout.order) if [one for one in order if one in great] == great]
        self.assertEqual(set(keeping), orders)
        self.assertEqual(len(orders), math.factorial(len(layout.order)) // math.factorial(len(great)))
        self.assertEqual(order_count(layout, rooms), len(orders))
        told_orders = [order_at(layout, rooms, index) for index in range(len(orders))]
        self.assertEqual(told_orders, keeping)
        for order in itertools.permutations(layout.order):
            there = order in orders
            self.assertEqual(blocking_pair(layout, order, rooms) is None, there)
            self.assertEqual(order_index(layout, order, rooms), told_orders.index(order) if there else None)
            self.assertEqual(order_plan(layout, order, rooms) is not None, there)
            self.assertEqual(least_room(layout, order, rooms)[1] == 0, there)

    def test_targets(self):
        for sizes, free, rooms in CASES:
            found = searched(sizes, free, rooms)
            for number, group in enumerate(found):
                layout = group[len(group) // 2]
                for other, targets in enumerate(found):
                    for target in targets[::3]:
                        self.assertIs(can_come_to(layout, target, rooms), number == other)

    def test_plans_lead_to_every_layout_and_back(self):
        for sizes, free, rooms in CASES:
            for group in searched(sizes, free, rooms):
                layout = group[len(group) // 3]
                for target in group[::7]:
                    self.there_and_back(layout, target, rooms)

    def there_and_back(self, layout, target, rooms):
        """By order_plan into the order of the target, by slides to the target itself; and all of it reversed."""
        plan = order_plan(layout, target.order, rooms)
        behind, names, fault = checked(layout, plan, rooms)
        self.assertEqual((behind.order, any(names), fault), (target.order, False, None))
        self.assertTrue(all(one != other for one, other in itertools.pairwise(states_of(layout, plan, rooms))))
        whole = (*plan, *slides(behind, target))
        end, back = reversed_plan(layout, whole, rooms)
        self.assertEqual(write_layout(end), write_layout(target))
        self.assertEqual(write_layout(checked(end, back, rooms)[0]), write_layout(layout))
        self.assertEqual(write_layout(checked(layout, joined(layout, whole, rooms), rooms)[0]), write_layout(target))

    def test_yards(self):
        for sizes, free, rooms in CASES:
            found = searched(sizes, free, rooms)
            events = [("put", name, size) for name, size in zip("abcd", sizes)]
            for group in found:
                orders = {layout.order for layout in group}
                if tuple("abcd"[:len(sizes)]) not in orders:
                    continue
                for order in itertools.permutations("abcd"[:len(sizes)]):
                    self.reorder(replayed(sum(sizes) + free, rooms, events), order, order in orders)

    def reorder(self, yard, order, there):
        layout = yard.layout()
        answer = told(yard.reorder, order)
        if not there:
            self.assertEqual((answer, yard.layout().order, yard.toll()), (("NotReached", {}), layout.order, 0))
            return
        plan = order_plan(layout, order, yard.rooms())
        self.assertEqual(answer, sum(layout.size_of(name) for name, _ in plan))
        self.assertEqual(write_layout(yard.layout()), write_layout(checked(layout, plan, yard.rooms())[0]))
        self.assertEqual((yard.layout().order, yard.toll(), yard.undo()), (order, answer, ("reorder", order)))
        self.assertEqual(write_layout(yard.layout()), write_layout(layout))


class FullSearchOfRooms(unittest.TestCase):
    def test_the_least_cells_of_one_more_room(self):
        for sizes, free, rooms in CASES:
            if len(rooms) > 2 or len(sizes) < 2:
                continue
            # By the cells of one more room, from 0 on, which orders are in a group with which.
            found = [searched(sizes, free, (*rooms, cells)) for cells in range(max(sizes) + 1)]
            reached = [[{layout.order for layout in group} for group in more] for more in found]
            for order, other in itertools.product(itertools.permutations("abcd"[:len(sizes)]), repeat=2):
                layout = Layout(sum(sizes) + free, in_order(sizes, order))
                least = [any({order, other} <= orders for orders in more) for more in reached].index(True)
                self.least(layout, other, rooms, least)

    def least(self, layout, order, rooms, least):
        needed, cells, aside = least_room(layout, order, rooms)
        self.assertEqual(cells, least)
        self.assertLessEqual(cells, needed)
        self.assertEqual(sum(layout.size_of(name) for name in aside), cells if 0 < cells < needed else 0)
        self.assertEqual(needed > threshold(layout, rooms), cells > 0)


def in_order(sizes, order):
    """Blocks side by side from 0 on, in an order."""
    blocks, end = [], 0
    for name in order:
        blocks.append((name, end, sizes["abcd".index(name)]))
        end += sizes["abcd".index(name)]
    return blocks


class FullSearchOfCrossings(unittest.TestCase):
    """Without rooms: the sets of blocks that cross on all ways that there are."""

    def test_the_fewest_that_cross(self):
        for sizes, free in (((2, 1), 1), ((2, 2), 1), ((2, 2), 2), ((3, 2, 1), 1), ((3, 2, 1), 2), ((2, 2, 2), 2), ((2, 1, 1), 1),
                            ((3, 1, 1), 1), ((1, 1, 1, 1), 1), ((2, 1, 1, 1), 1)):
            capacity = sum(sizes) + free
            for begin in ((0,), tuple(range(free + 1))):
                starts = [sum(sizes[:index]) + begin[-1] for index in range(len(sizes))]
                layout = layout_of(starts, sizes, capacity)
                found = crossing_sets(tuple(starts), sizes, capacity)
                for numbers in itertools.permutations(range(len(sizes))):
                    order = tuple("abcd"[index] for index in numbers)
                    sets = [frozenset("abcd"[index] for index in one) for one in found.get(numbers, ())]
                    self.order(layout, order, sets)

    def order(self, layout, order, sets):
        count = len(order)
        self.assertEqual(blocking_pair(layout, order, ()) is None, bool(sets))
        great = {name for name, _, size in layout.blocks if size > layout.free}
        for weights in ((1,) * count, [size for _, _, size in layout.blocks], (3, 1, 2, 4)[:count], (0, 2, 0, 1)[:count]):
            weight = dict(zip(layout.order, weights))
            for kept in ((), layout.order[-1:], layout.order[:2]):
                some = [one for one in sets if not one & set(kept)]
                answer = fewest_crossings(layout, order, kept, weights)
                self.assertEqual(answer is None, not some)
                if answer is not None:
                    self.assertLessEqual(great | set(kept), set(answer[0]))
                    fewest = min(sum(weight[name] for name in one) for one in some)
                    self.assertEqual(sum(weight[name] for name in answer[1]), fewest)
        self.stay(layout, order, sets, great)

    def stay(self, layout, order, sets, great):
        """Those that do not cross can stay; and if some can stay, there is a way on which at most the others cross."""
        can_stay = [set(names) for names in subsets(layout.order)
                    if great <= set(names) and [name for name in order if name in names] == list(names)]
        for one in sets:
            self.assertIn(set(layout.order) - one, can_stay)
        for names in can_stay:
            self.assertTrue(any(not one & names for one in sets))
        if sets:
            plan = order_plan(layout, order, ())
            self.assertIn(frozenset(crossed(layout, plan)), sets)
            self.assertEqual(len(crossed(layout, plan)), min(len(one) for one in sets))


if __name__ == "__main__":
    unittest.main()
