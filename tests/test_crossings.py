"""F1 and F2, and crossed and fewest_crossings of "letpast/crossings.py" in the interface."""

import copy
import itertools
import random
import unittest

from letpast.crossings import BadWeights, crossed, fewest_crossings
from letpast.errors import LetError
from letpast.layouts import Layout
from letpast.texts import read_layout
from tests.by_words import staying_by_words
from tests.support import (
    Follower, WithinSeconds, as_lists, bad_order, bad_plan, in_a_row, kinds_within, layouts_of, not_possible,
    random_plans, room, small_layouts, told,
)

EXAMPLE = read_layout("12 a@0+5 b@5+1 c@6+1")
# Free: 2. Greater than that are x, y and z.
MIXED = read_layout("20 x@0+3 s@3+2 y@5+4 t@10+2 z@13+7")


def bad_weights(number):
    return ("BadWeights", {"number": number})


class Crossed(unittest.TestCase):
    def look(self, text, plan, wanted):
        self.assertEqual(crossed(read_layout(text), plan), wanted)

    def test_no_step_crosses(self):
        self.look("12 a@0+5 b@5+1 c@6+1", (), ())
        self.look("12 a@0+5 b@5+1 c@6+1", [("c", 11), ("b", 10), ("a", 3), ("a", 5), ("a", 0), ("c", 11)], ())
        self.look("0", (), ())

    def test_small_ones(self):
        text = "12 a@0+5 b@5+1 c@6+1"
        for plan, wanted in (
            ([("b", 7)], ("b",)), ([("a", 7)], ("a",)), ([("c", 11), ("b", 10), ("a", 5)], ()),
            ([("b", 8), ("c", 5)], ("b",)), ([("b", 8), ("c", 9)], ("b", "c")), ([("b", 8), ("a", 1), ("b", 0)], ("b",)),
            ([("b", 7), ("b", 5)], ("b",)), ([("a", 7), ("a", 0)], ("a",)), ([("c", 7), ("a", 0), ("b", 9)], ("b",)),
            ([("c", 10), ("b", 11), ("c", 5), ("a", 6)], ("a", "b")),
        ):
            self.look(text, plan, wanted)
            self.look(text, as_lists(plan), wanted)

    def test_they_are_told_by_their_starts_in_the_layout(self):
        self.look("9 z@0+1 m@2+1 a@4+1", [("a", 1), ("z", 5)], ("z", "a"))
        self.look("9 a@0+1 m@2+1 z@4+1", [("z", 1), ("m", 5)], ("z",))
        self.look("9 a@0+1 m@2+1 z@4+1", [("z", 1), ("z", 6), ("a", 3)], ("a", "z"))

    def test_a_plan_of_the_document(self):
        plan = (("c", 11), ("b", 10), ("a", 1), ("b", 0), ("a", 2), ("c", 1))
        self.look("12 a@0+9 b@9+1 c@10+1", plan, ("b", "c"))

    def test_against_the_order_ahead_of_each_step_and_behind(self):
        for text, _, plan in random_plans(300, 30):
            follower, wanted, steps = Follower(text, ()), set(), []
            for name, place in plan:
                if follower.fault(name, place) is None:
                    ahead = sorted(follower.places, key=follower.places.get)
                    follower.put(name, place)
                    steps.append((name, place))
                    if sorted(follower.places, key=follower.places.get) != ahead:
                        wanted.add(name)
            layout = read_layout(text)
            self.assertEqual(crossed(layout, steps), tuple(name for name in layout.order if name in wanted))

    def test_4000_steps(self):
        layout = in_a_row((1,) * 12, 2)
        plan = [("n0", 12), ("n1", 13), ("n0", 0), ("n1", 1)] * 1000
        with WithinSeconds(5):
            self.assertEqual(crossed(layout, plan), ("n0", "n1"))
        self.assertEqual(told(crossed, layout, plan + [("n0", 0)]), bad_plan(None))


class WrongPlans(unittest.TestCase):
    def test_not_possible(self):
        for plan, fault in (
            ([("b", 6)], (0, "overlap")), ([("b", 7), ("c", 12)], (1, "beyond")), ([("d", 0)], (0, "no block")),
            ([("b", -1)], (0, "beyond")), ([("b", room(0))], (0, "no room")), ([("c", 9), ("b", room(3))], (1, "no room")),
            ([("d", room(0))], (0, "no block")), ([("b", 7), ("b", room(-1)), ("c", 99)], (1, "no room")),
        ):
            self.assertEqual(told(crossed, EXAMPLE, plan), not_possible(*fault))
            self.assertEqual(told(crossed, EXAMPLE, as_lists(plan)), not_possible(*fault))

    def test_bad_plan_ahead_of_not_possible(self):
        for wrong in (None, ("b", None), ("b", 1, 2), ("b", True), ("b", ("room",)), "b1"):
            self.assertEqual(told(crossed, EXAMPLE, [("b", 6), wrong, ("b", room(0))]), bad_plan(1))


class Fewest(unittest.TestCase):
    def look(self, layout, order, kept, weights, wanted):
        self.assertEqual(fewest_crossings(layout, tuple(order), kept, weights), wanted)

    def test_example(self):
        self.look(EXAMPLE, "bca", (), (1, 1, 1), (("b", "c"), ("a",)))
        self.look(EXAMPLE, "bca", (), (5, 1, 1), (("a",), ("b", "c")))
        self.look(EXAMPLE, "bca", (), (0, 0, 0), ((), ("b", "c", "a")))
        self.look(EXAMPLE, "bca", ("b",), (0, 0, 0), (("b",), ("c", "a")))

    def test_just_at_the_free_cells_and_one_above(self):
        self.look(read_layout("10 a@0+5 b@5+1 c@6+1"), "bca", (), (1, 1, 1), (("a",), ("b", "c")))
        self.look(read_layout("11 a@0+5 b@5+1 c@6+1"), "bca", (), (1, 1, 1), (("a",), ("b", "c")))
        self.look(read_layout("12 a@0+5 b@5+1 c@6+1"), "bca", (), (1, 1, 1), (("b", "c"), ("a",)))
        self.look(read_layout("5 a@0+2 b@2+2"), "ba", (), (1, 1), None)
        self.look(read_layout("6 a@0+2 b@2+2"), "ba", (), (1, 1), (("a",), ("b",)))

    def test_great_blocks_must_stay(self):
        self.look(MIXED, "xyzst", (), (1,) * 5, (tuple("xyz"), tuple("st")))
        self.look(MIXED, "stxyz", (), (0, 9, 0, 9, 0), (tuple("xyz"), tuple("st")))
        self.look(MIXED, "stxyz", (), (0,) * 5, (tuple("xyz"), tuple("st")))
        # (x, s, y, t, z) is ahead of (x, y, z): s is at an earlier position than y.
        self.look(MIXED, "xsytz", (), (0,) * 5, (tuple("xsytz"), ()))
        self.look(MIXED, "tsxyz", (), (1,) * 5, (tuple("xyz"), tuple("ts")))
        self.look(MIXED, "xtysz", (), (1, 5, 1, 6, 1), (tuple("xyz"), tuple("ts")))
        for order in ("yxszt", "xszyt", "zsyxt"):
            self.look(MIXED, order, (), (1,) * 5, None)

    def test_kept_names(self):
        self.look(MIXED, "xyszt", ("s",), (1,) * 5, None)
        self.look(EXAMPLE, "bca", ["a"], (1, 1, 1), (("a",), ("b", "c")))
        self.look(EXAMPLE, "bca", ("a", "a"), (1, 1, 1), (("a",), ("b", "c")))
        self.look(EXAMPLE, "bca", ("c", "b", "c"), (9, 0, 0), (("b", "c"), ("a",)))
        self.look(EXAMPLE, "bca", ("a", "b"), (1, 1, 1), None)
        self.look(EXAMPLE, "bca", ("c", "a"), (1, 1, 1), None)
        self.look(MIXED, "xsyzt", ("s", "x"), (0,) * 5, (tuple("xsyz"), ("t",)))

    def test_of_several_sets_the_first_one(self):
        layout = read_layout("12 a@0+1 b@2+1 c@4+1 d@6+1")
        self.look(layout, "badc", (), (1,) * 4, (("a", "c"), ("b", "d")))
        self.look(layout, "dcba", (), (1,) * 4, (("a",), ("d", "c", "b")))
        self.look(layout, "dcba", (), (1, 2, 2, 1), (("b",), ("d", "c", "a")))
        self.look(layout, "cdab", (), (1,) * 4, (("a", "b"), ("c", "d")))
        self.look(layout, "cdab", (), (1, 1, 2, 0), (("a", "b"), ("c", "d")))
        self.look(layout, "dabc", (), (1, 1, 1, 3), (("a", "b", "c"), ("d",)))
        self.look(layout, "dabc", (), (1, 1, 1, 4), (("d",), ("a", "b", "c")))

    def test_blocks_of_weight_0(self):
        layout = read_layout("12 a@0+1 b@2+1 c@4+1 d@6+1")
        self.look(layout, "abcd", (), (0, 0, 0, 0), ((), tuple("abcd")))
        self.look(layout, "abcd", (), (1, 0, 0, 0), (("a",), tuple("bcd")))
        # (a, b, c) is ahead of (a, c), which is ahead of (b, c): the longer one comes first.
        self.look(layout, "abcd", (), (0, 0, 1, 0), (("a", "b", "c"), ("d",)))
        self.look(layout, "abcd", (), (0, 1, 0, 0), (("a", "b"), ("c", "d")))
        self.look(layout, "bacd", (), (0, 0, 1, 0), (("a", "c"), ("b", "d")))
        self.look(layout, "abcd", ("c",), (0, 0, 0, 0), (("a", "b", "c"), ("d",)))

    def test_positions_count_and_not_names(self):
        layout = read_layout("9 z@0+1 m@3+1 a@6+1")
        self.look(layout, "amz", (), (1, 1, 1), (("z",), ("a", "m")))
        self.look(layout, "mza", (), (1, 2, 4), (("m", "a"), ("z",)))
        self.look(layout, "mza", (), (2, 1, 4), (("z", "a"), ("m",)))

    def test_without_blocks_and_with_one(self):
        self.look(read_layout("0"), "", (), (), ((), ()))
        self.look(read_layout("3 a@0+3"), "a", (), (0,), (("a",), ()))
        self.look(read_layout("6 a@0+3"), "a", (), (0,), ((), ("a",)))
        self.look(read_layout("6 a@0+3"), "a", ["a"], [0], (("a",), ()))
        self.look(read_layout("6 a@0+3"), "a", (), (1,), (("a",), ()))

    def test_cells_in_the_place_of_weights(self):
        for layout in layouts_of((3, 2, 1), 2):
            sizes = [size for _, _, size in layout.blocks]
            for order in itertools.permutations(layout.order):
                stay, cross = fewest_crossings(layout, order, (), sizes)
                self.assertEqual(stay, staying_by_words(layout, order, "a", sizes))
                self.assertEqual(cross, tuple(name for name in order if name not in stay))

    def test_against_all_sets(self):
        layouts = [*small_layouts((3, 5), 3), in_a_row((3, 1, 2, 1), 2), in_a_row((1, 2, 1, 2), 1)]
        for layout in layouts:
            great = [name for name, _, size in layout.blocks if size > layout.free]
            count = len(layout.blocks)
            rows = [(1,) * count, (0,) * count, (3, 1, 0, 2)[:count], (0, 2, 1, 1)[:count], (10 ** 30, 1, 10 ** 30, 0)[:count]]
            for order, weights in itertools.product(itertools.permutations(layout.order), rows):
                for kept in ((), layout.order[:1], layout.order[1:] * 2):
                    stay = staying_by_words(layout, order, [*great, *kept], weights)
                    wanted = None if stay is None else (stay, tuple(name for name in order if name not in stay))
                    self.look(layout, order, kept, weights, wanted)


class Greatest(unittest.TestCase):
    def test_twelve_blocks_and_great_weights_within_a_limit_of_time(self):
        great = 10 ** 30
        layout = in_a_row((5 * 10 ** 29,) * 12, 5 * 10 ** 29)
        names = layout.order
        with WithinSeconds(3):
            self.assertEqual(fewest_crossings(layout, names, (), [great] * 12), (names, ()))
            self.assertEqual(fewest_crossings(layout, names, (), [0] * 12), ((), names))
            self.assertEqual(fewest_crossings(layout, names, names * 2, [0] * 12), (names, ()))
            self.assertEqual(fewest_crossings(layout, names[::-1], (), [great] * 12), (names[:1], names[:0:-1]))
            self.assertEqual(fewest_crossings(layout, names[::-1], (), [0] * 11 + [1]), (names[11:], names[10::-1]))
        tight = Layout(layout.capacity - 1, layout.blocks)
        self.assertIsNone(fewest_crossings(tight, names[::-1], (), [0] * 12))
        self.assertEqual(fewest_crossings(tight, names, (), [0] * 12), (names, ()))

    def test_twelve_blocks_in_chance_orders(self):
        chance = random.Random(8)
        layout = in_a_row([chance.randrange(1, 4) for _ in range(12)], 2)
        great = [name for name, _, size in layout.blocks if size > 2]
        for _ in range(6):
            waiting = iter(great)
            order = [next(waiting) if name in great else name for name in chance.sample(layout.order, 12)]
            weights = [chance.randrange(3) for _ in range(12)]
            stay = staying_by_words(layout, order, great, weights)
            cross = tuple(name for name in order if name not in stay)
            self.assertEqual(fewest_crossings(layout, order, (), weights), (stay, cross))


class WrongArguments(unittest.TestCase):
    def refused(self, order, kept, weights, wanted):
        given = (list(order), list(kept), list(weights))
        self.assertEqual(told(fewest_crossings, EXAMPLE, *given), wanted)
        self.assertEqual(given, (list(order), list(kept), list(weights)))
        self.assertEqual(told(fewest_crossings, EXAMPLE, tuple(order), tuple(kept), tuple(weights)), wanted)

    def test_order(self):
        self.refused("bda", (), (1, 1, 1), bad_order(1, "block"))
        self.refused("bba", (), (1, 1, 1), bad_order(1, "twice"))
        self.refused("ba", (), (1, 1, 1), bad_order(None, "length"))

    def test_kept_names(self):
        for kept in (["d"], ["a", "b", "c", ""], ["a", "a", "A"], ("b", "no such name")):
            self.refused("bca", kept, (1, 1, 1), ("NoBlock", {}))

    def test_weights(self):
        for weights in ((), (1, 1), (1, 1, 1, 1), (-1, -1), (1, 1, 1, -1)):
            self.refused("bca", (), weights, bad_weights(None))
        for wrong in (-1, 10 ** 30 + 1, -10 ** 30):
            self.refused("bca", (), (wrong, 1, wrong), bad_weights(0))
            self.refused("bca", (), (10 ** 30, 0, wrong), bad_weights(2))
        self.assertEqual(told(fewest_crossings, read_layout("0"), (), (), (1,)), bad_weights(None))

    def test_several_wrong_things_at_once(self):
        self.refused("bda", ("d",), (1, -1), bad_order(1, "block"))
        self.refused("ba", ("d",), (1, -1, 1), bad_order(None, "length"))
        self.refused("bca", ("a", "d"), (1, -1), ("NoBlock", {}))
        self.refused("bca", ("d",), (1, -1, 1), ("NoBlock", {}))
        # Weights are looked at, also where no set can stay.
        self.refused("bca", ("a", "b"), (1, 1, -1), bad_weights(2))
        self.refused("bca", ("a", "b"), (1, 1), bad_weights(None))

    def test_class_of_the_error(self):
        self.assertTrue(issubclass(BadWeights, LetError))


class Kinds(unittest.TestCase):
    def test_lists_stand_for_tuples_and_nothing_is_changed(self):
        rows = ((("b", "c", "a"), ["b", "c", "a"]), (("b",), ["b", "b"]), ((1, 1, 1), [1, 1, 1]))
        for given in itertools.product(*rows):
            kept = copy.deepcopy((given, vars(EXAMPLE)))
            answer = fewest_crossings(EXAMPLE, *given)
            self.assertEqual(answer, (("b", "c"), ("a",)))
            self.assertEqual(kinds_within(answer), {tuple, str})
            self.assertEqual((given, vars(EXAMPLE)), kept)
        plan = [["b", 8], ["c", 9]]
        kept = copy.deepcopy((plan, vars(EXAMPLE)))
        self.assertEqual(crossed(EXAMPLE, plan), crossed(EXAMPLE, (("b", 8), ("c", 9))))
        self.assertEqual(kinds_within(crossed(EXAMPLE, plan)), {tuple, str})
        self.assertEqual((plan, vars(EXAMPLE)), kept)


if __name__ == "__main__":
    unittest.main()
