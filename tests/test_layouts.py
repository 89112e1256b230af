"""A1 and A2, and "letpast/layouts.py" and "letpast/errors.py" in the interface."""

import itertools
import unittest

from letpast.errors import LetError
from letpast.layouts import BadLayout, BadSize, Layout, NoBlock

EXAMPLE = [("a", 0, 8), ("b", 9, 3), ("c", 14, 2)]


def many_blocks(count):
    """So many blocks of one cell, with a free cell behind each."""
    return [(f"n{k}", 2 * k, 1) for k in range(count)]


class Attributes(unittest.TestCase):
    def check(self, layout, **wanted):
        for name, value in wanted.items():
            self.assertEqual(getattr(layout, name), value, name)

    def test_example_in_every_sequence(self):
        for blocks in itertools.permutations(EXAMPLE):
            self.check(
                Layout(16, blocks), capacity=16, blocks=tuple(EXAMPLE), order=("a", "b", "c"),
                free=3, gaps=((0, 0), (8, 1), (12, 2), (16, 0)), longest_gap=2,
            )

    def test_starts_count_and_not_names(self):
        layout = Layout(9, [("a", 7, 1), ("z", 0, 2), ("m", 3, 3)])
        self.check(
            layout, blocks=(("z", 0, 2), ("m", 3, 3), ("a", 7, 1)), order=("z", "m", "a"),
            free=3, gaps=((0, 0), (2, 1), (6, 1), (8, 1)), longest_gap=1,
        )

    def test_starts_are_compared_as_numbers(self):
        layout = Layout(20, [("a", 10, 1), ("b", 9, 1), ("c", 2, 1)])
        self.assertEqual(layout.order, ("c", "b", "a"))

    def test_without_blocks_there_is_one_gap(self):
        self.check(
            Layout(10, []), capacity=10, blocks=(), order=(), free=10,
            gaps=((0, 10),), longest_gap=10,
        )

    def test_without_cells(self):
        self.check(
            Layout(0, ()), capacity=0, blocks=(), order=(), free=0, gaps=((0, 0),), longest_gap=0,
        )

    def test_blocks_that_touch_have_a_gap_without_cells_between_them(self):
        self.check(
            Layout(6, [("b", 2, 3), ("a", 1, 1)]), free=2, gaps=((0, 1), (2, 0), (5, 1)), longest_gap=1,
        )

    def test_full_layout(self):
        self.check(
            Layout(5, [("b", 2, 3), ("a", 0, 2)]), free=0, gaps=((0, 0), (2, 0), (5, 0)), longest_gap=0,
        )

    def test_the_longest_gap_can_be_the_first_or_the_last(self):
        self.assertEqual(Layout(9, [("a", 5, 2), ("b", 8, 1)]).longest_gap, 5)
        self.assertEqual(Layout(9, [("a", 1, 2), ("b", 4, 1)]).longest_gap, 4)

    def test_greatest_numbers(self):
        sizes = 10 ** 30
        blocks = [(f"n{k}", k * sizes, sizes) for k in range(10)]
        self.check(Layout(10 ** 31, blocks), free=0, capacity=10 ** 31, longest_gap=0)
        self.check(
            Layout(10 ** 31, [("a", 9 * sizes - 1, sizes)]), free=9 * sizes,
            gaps=((0, 9 * sizes - 1), (10 * sizes - 1, 1)),
        )

    def test_twelve_blocks(self):
        layout = Layout(24, many_blocks(12)[::-1])
        self.check(layout, free=12, order=tuple(f"n{k}" for k in range(12)))
        self.assertEqual(len(layout.gaps), 13)

    def test_lists_stand_for_tuples_and_tuples_are_told(self):
        forms = (
            [list(block) for block in EXAMPLE], tuple(list(block) for block in EXAMPLE),
            tuple(EXAMPLE), [["a", 0, 8], ("b", 9, 3), ["c", 14, 2]],
        )
        for blocks in forms:
            layout = Layout(16, blocks)
            self.assertEqual(layout.blocks, tuple(EXAMPLE))
            for told in (layout.blocks, layout.order, layout.gaps, *layout.blocks, *layout.gaps):
                self.assertIs(type(told), tuple)

    def test_nothing_that_is_passed_is_changed(self):
        blocks = [["c", 14, 2], ["a", 0, 8], ["b", 9, 3]]
        Layout(16, blocks)
        self.assertEqual(blocks, [["c", 14, 2], ["a", 0, 8], ["b", 9, 3]])
        with self.assertRaises(BadLayout):
            Layout(15, blocks)
        self.assertEqual(blocks, [["c", 14, 2], ["a", 0, 8], ["b", 9, 3]])

    def test_later_changes_of_what_was_passed_change_nothing(self):
        blocks = [["c", 14, 2], ["a", 0, 8], ["b", 9, 3]]
        layout = Layout(16, blocks)
        blocks[1][0] = "z"
        blocks[0][1] = 3
        blocks[2][2] = 1
        blocks.append(["d", 8, 1])
        self.check(
            layout, blocks=tuple(EXAMPLE), order=("a", "b", "c"), free=3,
            gaps=((0, 0), (8, 1), (12, 2), (16, 0)), longest_gap=2,
        )
        self.assertEqual((layout.start_of("c"), layout.size_of("b"), layout.place_for(2)), (14, 3, 12))


class Questions(unittest.TestCase):
    def test_start_of_and_size_of(self):
        layout = Layout(16, EXAMPLE[::-1])
        for name, start, size in EXAMPLE:
            self.assertEqual((layout.start_of(name), layout.size_of(name)), (start, size))

    def test_no_block(self):
        for layout in (Layout(16, EXAMPLE), Layout(16, [])):
            for name in ("d", "", "A", "ab", "a ", "no such name"):
                with self.assertRaises(NoBlock):
                    layout.start_of(name)
                with self.assertRaises(NoBlock):
                    layout.size_of(name)

    def test_place_for_is_the_first_gap_that_is_long_enough(self):
        layout = Layout(16, EXAMPLE)
        self.assertEqual([layout.place_for(k) for k in (1, 2, 3, 16, 10 ** 40)], [8, 12, None, None, None])

    def test_place_for_can_be_the_start_0(self):
        layout = Layout(9, [("a", 2, 1), ("b", 6, 1)])
        self.assertEqual([layout.place_for(k) for k in (1, 2, 3, 4)], [0, 0, 3, None])
        self.assertEqual(Layout(10, ()).place_for(10), 0)

    def test_place_for_behind_the_last_block(self):
        self.assertEqual(Layout(9, [("a", 0, 4)]).place_for(5), 4)

    def test_gaps_without_cells_are_no_place(self):
        self.assertIsNone(Layout(0, ()).place_for(1))
        self.assertIsNone(Layout(3, [("a", 0, 1), ("b", 1, 2)]).place_for(1))

    def test_bad_size(self):
        for layout in (Layout(16, EXAMPLE), Layout(0, [])):
            for size in (0, -1, -10 ** 31):
                with self.assertRaises(BadSize):
                    layout.place_for(size)


class Refusals(unittest.TestCase):
    def refused(self, capacity, blocks, number, reason):
        with self.assertRaises(BadLayout) as caught:
            Layout(capacity, blocks)
        self.assertEqual((caught.exception.number, caught.exception.reason), (number, reason))

    def test_capacity(self):
        for capacity in (-1, -10 ** 31, 10 ** 31 + 1):
            self.refused(capacity, [], None, "capacity")

    def test_many(self):
        self.refused(100, many_blocks(13), None, "many")
        self.refused(100, tuple(many_blocks(40)), None, "many")

    def test_name(self):
        for name in ("", "A", "1", "1a", "abcdefghi", "a_b", "a b", "a@", "aB", " a", "a\n", "\u00e4", "a\u00e4",
                     "a\u0661", "\u0430", "a\u00b2"):
            self.refused(10, [(name, 0, 1)], 0, "name")

    def test_names_that_are_names(self):
        for name in ("a", "z", "a0", "z9", "abcdefgh", "a1234567", "z0z0z0z0", "room"):
            self.assertEqual(Layout(10, [(name, 0, 1)]).order, (name,))

    def test_start(self):
        self.refused(10, [("a", -1, 5)], 0, "start")
        self.refused(10, [("a", 1, 5), ("b", -10 ** 31, 1)], 1, "start")

    def test_size(self):
        for size in (0, -1, 10 ** 30 + 1):
            self.refused(10 ** 31, [("a", 0, size)], 0, "size")

    def test_smallest_and_greatest_size(self):
        for size in (1, 10 ** 30):
            self.assertEqual(Layout(10 ** 31, [("a", 0, size)]).size_of("a"), size)

    def test_twice(self):
        self.refused(10, [("a", 0, 1), ("b", 1, 1), ("a", 5, 1)], 2, "twice")

    def test_beyond(self):
        self.refused(10, [("a", 0, 1), ("b", 8, 3)], 1, "beyond")
        self.refused(10, [("a", 10, 1)], 0, "beyond")
        self.refused(0, [("a", 0, 1)], 0, "beyond")
        self.assertEqual(Layout(10, [("b", 8, 2)]).start_of("b"), 8)

    def test_overlap(self):
        # Within, around, at the first cell, at the last cell, the same cells.
        for start, size in ((4, 1), (2, 6), (1, 3), (5, 2), (3, 3), (3, 1), (5, 1)):
            self.refused(10, [("z", 9, 1), ("a", 3, 3), ("b", start, size)], 2, "overlap")
        for start, size in ((0, 3), (6, 3)):
            self.assertEqual(Layout(10, [("z", 9, 1), ("a", 3, 3), ("b", start, size)]).size_of("b"), size)

    def test_overlap_with_an_earlier_one_but_the_last(self):
        self.refused(10, [("a", 0, 2), ("b", 5, 2), ("c", 1, 1)], 2, "overlap")

    def test_the_sequence_of_handing_in_counts(self):
        self.refused(10, [("b", 5, 2), ("a", 4, 2)], 1, "overlap")
        self.refused(10, [("a", 4, 2), ("b", 5, 2)], 1, "overlap")
        self.refused(10, [("a", 9, 2), ("b", 0, 0)], 0, "beyond")

    def test_capacity_and_many_come_first(self):
        self.refused(-1, many_blocks(13), None, "capacity")
        self.refused(10 ** 31 + 1, [("A", -1, 0)], None, "capacity")
        self.refused(10, [("A", -1, 0)] * 13, None, "many")

    def test_an_earlier_block_comes_ahead_of_an_earlier_reason(self):
        self.refused(10, [("a", 0, 1), ("b", 0, 1), ("C", 2, 1)], 1, "overlap")
        self.refused(10, [("a", 10, 1), ("a", -1, 0)], 0, "beyond")

    def test_the_first_reason_of_a_block(self):
        ahead = ("a", 0, 5)
        self.refused(10, [ahead, ("A", -1, 0)], 1, "name")
        self.refused(10, [ahead, ("a", -1, 0)], 1, "start")
        self.refused(10, [ahead, ("a", -1, 20)], 1, "start")
        self.refused(10, [ahead, ("a", 4, 0)], 1, "size")
        self.refused(10, [ahead, ("a", 4, 10 ** 30 + 1)], 1, "size")
        self.refused(10, [ahead, ("a", 4, 20)], 1, "twice")
        self.refused(10, [ahead, ("b", 4, 20)], 1, "beyond")
        self.refused(10, [ahead, ("b", 4, 6)], 1, "overlap")

    def test_all_pairs_of_small_blocks(self):
        spans = [(start, size) for start in range(-1, 5) for size in range(0, 5)]
        for capacity in range(5):
            for one, other in itertools.product(spans, repeat=2):
                blocks = [("m", *one), ("k", *other)]
                wanted = None
                taken = set()
                for number, (_, start, size) in enumerate(blocks):
                    cells = set(range(start, start + size))
                    for reason, holds in (("start", start < 0), ("size", size < 1),
                                          ("beyond", start + size > capacity), ("overlap", taken & cells)):
                        if wanted is None and holds:
                            wanted = (number, reason)
                    taken |= cells
                if wanted is not None:
                    self.refused(capacity, blocks, *wanted)
                else:
                    self.assertEqual(Layout(capacity, blocks).free, capacity - len(taken))


class Errors(unittest.TestCase):
    def test_all_are_under_let_error(self):
        self.assertTrue(issubclass(LetError, ValueError))
        for error in (BadLayout, NoBlock, BadSize):
            self.assertTrue(issubclass(error, LetError))


if __name__ == "__main__":
    unittest.main()
