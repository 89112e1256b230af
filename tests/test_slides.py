"""D1, and "letpast/slides.py" in the interface."""

import copy
import itertools
import unittest

from letpast.errors import LetError
from letpast.layouts import Layout
from letpast.plans import checked, states_of
from letpast.slides import BadTarget, slides
from letpast.texts import read_layout, write_layout
from tests.support import kinds_within, small_layouts, told

EXAMPLE = Layout(18, [("k", 3, 4), ("m", 7, 2), ("n", 10, 5)])


def bad_target(reason):
    return ("BadTarget", {"reason": reason})


class Slides(unittest.TestCase):
    def test_examples(self):
        self.assertEqual(slides(EXAMPLE, Layout(18, [("k", 1, 4), ("m", 8, 2), ("n", 10, 5)])), (("k", 1), ("m", 8)))
        self.assertEqual(slides(EXAMPLE, Layout(18, [("k", 3, 4), ("m", 8, 2), ("n", 13, 5)])), (("n", 13), ("m", 8)))

    def test_down_by_starts_then_up_from_the_last_one(self):
        layout = read_layout("20 a@1+2 b@4+1 c@6+2 d@9+1 e@12+2 f@16+2")
        target = read_layout("20 a@0+2 b@5+1 c@6+2 d@10+1 e@11+2 f@13+2")
        self.assertEqual(slides(layout, target), (("a", 0), ("e", 11), ("f", 13), ("d", 10), ("b", 5)))
        self.assertEqual(slides(target, layout), (("b", 4), ("d", 9), ("f", 16), ("e", 12), ("a", 1)))

    def test_starts_count_and_not_names(self):
        self.assertEqual(slides(read_layout("9 z@2+1 a@4+1"), read_layout("9 z@0+1 a@1+1")), (("z", 0), ("a", 1)))
        self.assertEqual(slides(read_layout("9 z@2+1 a@4+1"), read_layout("9 z@7+1 a@8+1")), (("a", 8), ("z", 7)))

    def test_nothing_to_move(self):
        for text in ("18 k@3+4 m@7+2 n@10+5", "9", "0", "3 a@0+3"):
            self.assertEqual(slides(read_layout(text), read_layout(text)), ())

    def test_twelve_blocks_and_great_sizes(self):
        names = [f"n{number}" for number in range(12)]
        layout = Layout(10 ** 31, [(name, 10 ** 29 * at, 10 ** 29) for at, name in enumerate(names)])
        shift = 10 ** 31 - 12 * 10 ** 29
        target = Layout(10 ** 31, [(name, start + shift, size) for name, start, size in layout.blocks])
        self.assertEqual(slides(layout, target), tuple((name, shift + start) for name, start, _ in layout.blocks[::-1]))
        self.assertEqual(slides(target, layout), tuple((name, start) for name, start, _ in layout.blocks))

    def test_what_is_promised_of_them(self):
        layouts = list(small_layouts((5, 6, 7), 3))
        groups = {}
        for layout in layouts:
            sizes = tuple((name, size) for name, _, size in layout.blocks)
            groups.setdefault((layout.capacity, sizes), []).append(layout)
        for alike in groups.values():
            for layout, target in itertools.product(alike, repeat=2):
                self.check(layout, target)

    def check(self, layout, target):
        plan = slides(layout, target)
        behind, _, fault = checked(layout, plan, ())
        self.assertEqual((write_layout(behind), fault), (write_layout(target), None))
        for state in states_of(layout, plan, ()):
            starts = [start for _, start in state]
            self.assertEqual(starts, sorted(starts))
        moved = [name for name in layout.order if layout.start_of(name) != target.start_of(name)]
        down = [name for name in moved if layout.start_of(name) > target.start_of(name)]
        up = [name for name in moved if name not in down]
        self.assertEqual([name for name, _ in plan], down + up[::-1])


class WrongTargets(unittest.TestCase):
    def refused(self, target, reason):
        self.assertEqual(told(slides, EXAMPLE, read_layout(target)), bad_target(reason))

    def test_capacity(self):
        self.refused("17 k@3+4 m@7+2 n@10+5", "capacity")
        self.refused("19 k@3+4 m@7+2 n@10+5", "capacity")

    def test_blocks(self):
        for target in ("18 k@3+4 m@7+2", "18", "18 k@3+4 m@7+2 n@10+5 o@17+1", "18 k@3+4 m@7+2 o@10+5",
                       "18 k@3+4 m@7+2 n@10+4", "18 k@3+4 m@7+3 n@11+4", "18 k@3+2 m@7+4 n@13+5"):
            self.refused(target, "blocks")
        self.assertEqual(told(slides, read_layout("18"), EXAMPLE), bad_target("blocks"))

    def test_order(self):
        for target in ("18 m@3+2 k@5+4 n@10+5", "18 k@3+4 n@7+5 m@12+2", "18 n@0+5 m@5+2 k@7+4"):
            self.refused(target, "order")
        alike = read_layout("5 a@0+1 b@1+1")
        self.assertEqual(told(slides, alike, read_layout("5 b@0+1 a@1+1")), bad_target("order"))

    def test_the_first_one_counts(self):
        self.refused("17 m@3+2 k@5+4 n@10+4", "capacity")
        self.refused("17 m@3+2 k@5+4 n@10+5", "capacity")
        self.refused("18 m@3+2 k@5+4 n@10+4", "blocks")

    def test_class_of_the_error(self):
        self.assertTrue(issubclass(BadTarget, LetError))


class Kinds(unittest.TestCase):
    def test_tuples_are_told_and_nothing_is_changed(self):
        target = Layout(18, [("k", 1, 4), ("m", 8, 2), ("n", 11, 5)])
        kept = copy.deepcopy((vars(EXAMPLE), vars(target)))
        self.assertEqual(kinds_within(slides(EXAMPLE, target)), {tuple, str, int})
        self.assertEqual(told(slides, EXAMPLE, Layout(18, [])), bad_target("blocks"))
        self.assertEqual((vars(EXAMPLE), vars(target)), kept)


if __name__ == "__main__":
    unittest.main()
