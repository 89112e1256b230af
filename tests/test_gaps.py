"""D2 and D3, and "letpast/gaps.py" in the interface."""

import copy
import unittest

from letpast.errors import LetError
from letpast.gaps import BadLength, gap_plan
from letpast.layouts import Layout
from letpast.plans import cells_moved, checked, states_of
from letpast.texts import read_layout
from tests.support import kinds_within, small_layouts, told

EXAMPLE = Layout(18, [("k", 3, 4), ("m", 7, 2), ("n", 10, 5)])


def best_run_by_sorting(layout, length):
    """The best run as [D2] tells it: its cells, the index where it begins, its number of blocks."""
    found = []
    for first in range(len(layout.gaps)):
        for count in range(len(layout.blocks) - first + 1):
            gaps = sum(layout.gaps[first + k][1] for k in range(count + 1))
            if gaps >= length:
                found.append((sum(layout.blocks[first + k][2] for k in range(count)), first, count))
    return sorted(found)[0]


def fewest_cells_for_gaps(layout):
    """For each length the fewest cells of blocks that any order-keeping moves to such a gap move.

    It looks through all layouts that steps without rooms and without another order lead to.
    """
    sizes = [size for _, _, size in layout.blocks]
    begin = (tuple(start for _, start, _ in layout.blocks), frozenset())
    seen, waiting, fewest = {begin}, [begin], {}
    while waiting:
        starts, moved = waiting.pop()
        ends = [0, *(start + size for start, size in zip(starts, sizes))]
        longest = max(ahead - end for ahead, end in zip([*starts, layout.capacity], ends))
        cost = sum(sizes[index] for index in moved)
        for length in range(1, longest + 1):
            fewest[length] = min(cost, fewest.get(length, cost))
        for index, size in enumerate(sizes):
            end = [*starts, layout.capacity][index + 1]
            for start in range(ends[index], end - size + 1):
                state = (starts[:index] + (start,) + starts[index + 1:], moved | {index})
                if state not in seen:
                    seen.add(state)
                    waiting.append(state)
    return fewest


class GapPlans(unittest.TestCase):
    def look(self, text, length, wanted):
        self.assertEqual(gap_plan(read_layout(text), length), wanted)

    def test_examples(self):
        self.assertEqual(gap_plan(EXAMPLE, 3), (0, 0, ()))
        self.assertEqual(gap_plan(EXAMPLE, 4), (14, 5, (("n", 9),)))
        self.assertEqual(gap_plan(EXAMPLE, 5), (11, 11, (("k", 0), ("m", 4), ("n", 6))))
        self.assertEqual(gap_plan(EXAMPLE, 8), None)

    def test_the_first_gap_that_is_long_enough(self):
        text = "20 a@1+2 b@5+2 c@10+1 d@14+2"
        for length, start in ((1, 0), (2, 3), (3, 7), (4, 16)):
            self.look(text, length, (start, 0, ()))
        self.look("9 a@0+2 b@2+3", 4, (5, 0, ()))

    def test_just_the_free_cells_and_one_above(self):
        text = "12 a@1+2 b@5+3 c@10+1"
        self.look(text, 6, (6, 6, (("a", 0), ("b", 2), ("c", 5))))
        self.look(text, 7, None)
        self.look(text, 10 ** 40, None)

    def test_of_several_best_runs_the_one_that_begins_first(self):
        # Each of a, b and c alone would do, with 2 cells each; and a with b needs more.
        text = "13 a@1+2 b@4+2 c@7+2 d@10+2"
        self.look(text, 2, (2, 2, (("a", 0),)))
        # One great block, or two small ones ahead of or behind it.
        self.look("8 a@1+1 b@2+1 z@5+2", 3, (2, 2, (("a", 0), ("b", 1))))
        self.look("13 z@2+2 a@5+1 b@7+1 c@9+4", 3, (2, 2, (("z", 0),)))

    def test_fewer_cells_count_more_than_an_earlier_run(self):
        self.look("12 a@1+5 b@7+1 c@9+3", 2, (7, 1, (("b", 6),)))
        self.look("14 a@1+5 b@7+1 c@9+1 d@11+2", 3, (8, 2, (("b", 6), ("c", 7))))

    def test_fewer_blocks_do_not_count_more_than_fewer_cells(self):
        self.look("13 z@2+3 a@7+1 b@8+1 c@11+2", 4, (7, 2, (("a", 5), ("b", 6))))

    def test_blocks_come_to_the_end_of_the_one_ahead_of_the_run(self):
        self.look("11 a@0+2 b@3+1 c@5+3 d@9+2", 2, (3, 1, (("b", 2),)))
        self.look("11 a@1+6 c@8+2", 2, (9, 2, (("c", 7),)))

    def test_without_blocks_or_cells(self):
        self.look("7", 7, (0, 0, ()))
        self.look("7", 1, (0, 0, ()))
        self.look("7", 8, None)
        self.look("0", 1, None)
        self.look("3 a@0+3", 1, None)

    def test_twelve_blocks_and_great_sizes(self):
        size = 10 ** 29
        blocks = [(f"n{number}", (2 * number + 1) * size, size) for number in range(12)]
        layout = Layout(25 * size, blocks)
        plan = tuple((f"n{number}", number * size) for number in range(12))
        self.assertEqual(gap_plan(layout, 13 * size), (12 * size, 12 * size, plan))
        self.assertEqual(gap_plan(layout, 13 * size + 1), None)
        self.assertEqual(gap_plan(layout, size), (0, 0, ()))
        self.assertEqual(gap_plan(layout, size + 1), (size, size, plan[:1]))
        great = Layout(10 ** 31, [("a", 1, 10 ** 30), ("b", 10 ** 30 + 2, 10 ** 30)])
        self.assertEqual(gap_plan(great, great.free)[1], 2 * 10 ** 30)

    def test_what_is_promised_of_them(self):
        for layout in small_layouts(range(8), 3):
            fewest = fewest_cells_for_gaps(layout)
            for length in range(1, layout.capacity + 2):
                answer = gap_plan(layout, length)
                self.assertEqual(answer is None, length > layout.free)
                if answer is None:
                    self.assertNotIn(length, fewest)
                else:
                    self.check(layout, length, answer)
                    self.assertEqual(answer[1], fewest[length])

    def check(self, layout, length, answer):
        start, moved, plan = answer
        cells, first, count = best_run_by_sorting(layout, length)
        self.assertEqual((moved, [name for name, _ in plan]), (cells, list(layout.order[first:first + count])))
        behind, _, fault = checked(layout, plan, ())
        self.assertIsNone(fault)
        self.assertEqual(cells_moved(layout, plan, ()), moved)
        self.assertIn(start, [at for at, cells in behind.gaps if cells >= length])
        for state in states_of(layout, plan, ()):
            starts = [at for _, at in state]
            self.assertEqual(starts, sorted(starts))
        if moved == 0:
            self.assertEqual(start, layout.place_for(length))


class WrongLengths(unittest.TestCase):
    def test_below_1(self):
        for layout in (EXAMPLE, Layout(0, []), Layout(5, [])):
            for length in (0, -1, -10 ** 31):
                self.assertEqual(told(gap_plan, layout, length), ("BadLength", {}))

    def test_class_of_the_error(self):
        self.assertTrue(issubclass(BadLength, LetError))


class Kinds(unittest.TestCase):
    def test_tuples_are_told_and_nothing_is_changed(self):
        kept = copy.deepcopy(vars(EXAMPLE))
        for length in (3, 4, 5, 7):
            self.assertLessEqual(kinds_within(gap_plan(EXAMPLE, length)), {tuple, str, int})
        self.assertEqual(told(gap_plan, EXAMPLE, 0), ("BadLength", {}))
        self.assertEqual(vars(EXAMPLE), kept)


if __name__ == "__main__":
    unittest.main()
