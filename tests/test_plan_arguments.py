"""What the functions of "letpast/plans.py" do with wrong arguments, and with lists and tuples."""

import copy
import itertools
import unittest

from letpast.errors import LetError
from letpast.plans import (
    BadPlan, LeftAside, NotPossible, cells_moved, checked, joined, reversed_plan, settled_plan, states_of,
)
from letpast.texts import read_layout
from tests.support import as_lists, bad_plan, bad_rooms, kinds_within, not_possible, plain, room, told

EXAMPLE = "16 a@0+8 b@8+3 c@11+2"
RAISING = (states_of, cells_moved, joined, reversed_plan)
WITH_ROOMS = (checked, *RAISING)
NO_STEPS = (
    None, 7, "k2", "", b"k2", {"k": 2, "m": 3}, {"k", "m"}, (), [], ("k",), ["k", 2, 3], ("k", ("room", 0), 1),
    (2, "k"), (2, 3), (None, 2), (b"k", 2), (("k",), 2), ("k", None), ("k", "2"), ("k", "room"), ("k", b"r0"),
    ("k", True), ["k", False], ("k", 2.0), ("k", ()), ("k", ("room",)), ("k", ("room", 0, 0)), ("k", (0, "room")),
    ("k", ("Room", 0)), ("k", ("", 0)), ("k", ("room", "0")), ("k", ("room", None)), ("k", ["room", True]),
    ("k", ("room", 0.0)), ("k", (0, 0)), ("k", [["room"], 0]), ("k", {"room": 0, "x": 1}), ("k", (("room", 0),)),
)


class Settled(unittest.TestCase):
    def test_lists_and_tuples(self):
        plan = (("k", 2), ("m", room(0)), ("k", -5), ("", 10 ** 40), ("No name!", room(-3)), ("k", room(10 ** 40)))
        for given in (plan, list(plan), as_lists(plan), tuple(as_lists(plan)), [["k", 2], *plan[1:]]):
            kept = copy.deepcopy(given)
            self.assertEqual(settled_plan(given), plan)
            self.assertNotIn(list, kinds_within(settled_plan(given)))
            self.assertEqual(given, kept)

    def test_no_steps(self):
        self.assertEqual((settled_plan([]), settled_plan(())), ((), ()))

    def test_a_block_can_be_called_room(self):
        self.assertEqual(settled_plan([["room", 0], ["room", ["room", 0]]]), (("room", 0), ("room", room(0))))

    def test_later_changes_change_nothing(self):
        plan = [["k", ["room", 0]], ["m", 1]]
        settled = settled_plan(plan)
        plan[0][1][1] = 3
        plan[1][0] = "z"
        plan.append(["k", 9])
        self.assertEqual(settled, (("k", room(0)), ("m", 1)))

    def test_what_is_no_step(self):
        for wrong in NO_STEPS:
            self.assertEqual(told(settled_plan, [wrong]), bad_plan(0), repr(wrong))
            self.assertEqual(told(settled_plan, (("k", 1), ["m", room(0)], wrong, ("k", 3))), bad_plan(2), repr(wrong))

    def test_the_first_one_counts(self):
        self.assertEqual(told(settled_plan, [("k", 1), ("k", "1"), None, 5]), bad_plan(1))
        self.assertEqual(told(settled_plan, ("k", 1)), bad_plan(0))

    def test_4000_steps_and_4001(self):
        step = ("k", 2)
        self.assertEqual(len(settled_plan([step] * 4000)), 4000)
        self.assertEqual(told(settled_plan, [step] * 3999 + [None]), bad_plan(3999))
        for many in ([step] * 4001, (step,) * 5000, [None] * 4001, [step] * 4000 + [None]):
            self.assertEqual(told(settled_plan, many), bad_plan(None))


class WrongArguments(unittest.TestCase):
    def test_bad_plan_in_all(self):
        layout = read_layout(EXAMPLE)
        for call in WITH_ROOMS:
            for wrong in NO_STEPS:
                self.assertEqual(told(call, layout, [("c", 13), wrong], [2]), bad_plan(1), repr(wrong))
            self.assertEqual(told(call, layout, [("c", 11)] * 4001, [2]), bad_plan(None))
            self.assertNotIn("BadPlan", str(told(call, layout, [("c", 11)] * 4000, [2])))

    def test_bad_rooms_in_all(self):
        layout = read_layout(EXAMPLE)
        for call in WITH_ROOMS:
            for rooms, number in (((1,) * 5, None), ([-1] * 5, None), ([-1], 0), ((2, 3, -5, -1), 2), ([10 ** 31 + 1], 0)):
                self.assertEqual(told(call, layout, [], rooms), bad_rooms(number))
                self.assertEqual(told(call, layout, [("c", 13)], rooms), bad_rooms(number))
            self.assertNotIn("BadRooms", str(told(call, layout, [], [10 ** 31, 0, 0, 10 ** 31])))

    def test_several_wrong_things_at_once(self):
        layout = read_layout(EXAMPLE)
        not_there = [("c", room(0)), ("z", 0)]
        for call in WITH_ROOMS:
            self.assertEqual(told(call, layout, [*not_there, ("c", None)], [-1]), bad_plan(2))
            self.assertEqual(told(call, layout, [*not_there, ("c", None)], [2]), bad_plan(2))
            self.assertEqual(told(call, layout, not_there * 2001, [-1]), bad_plan(None))
            self.assertEqual(told(call, layout, not_there, [2, -1]), bad_rooms(1))
            self.assertEqual(told(call, layout, not_there, [2] * 5), bad_rooms(None))
        for call in RAISING:
            self.assertEqual(told(call, layout, not_there, [2]), not_possible(1, "no block"))
        self.assertEqual(plain(checked(layout, not_there, [2])), ("16 a@0+8 b@8+3", (("c",),), (1, "no block")))

    def test_classes_of_the_errors(self):
        for error in (BadPlan, NotPossible, LeftAside):
            self.assertTrue(issubclass(error, LetError))


class Kinds(unittest.TestCase):
    def test_lists_stand_for_tuples_and_nothing_is_changed(self):
        plan = (("c", room(0)), ("b", 9), ("b", 8), ("c", room(1)), ("c", 12), ("a", 0))
        rooms = (2, 3)
        for call in WITH_ROOMS:
            wanted = plain(call(read_layout(EXAMPLE), plan, rooms))
            for given_plan, given_rooms in itertools.product((plan, as_lists(plan), list(plan)), (rooms, list(rooms))):
                layout = read_layout(EXAMPLE)
                kept = copy.deepcopy((vars(layout), given_plan, given_rooms))
                answer = call(layout, given_plan, given_rooms)
                self.assertEqual(plain(answer), wanted)
                self.assertNotIn(list, kinds_within(answer))
                self.assertEqual((vars(layout), given_plan, given_rooms), kept)

    def test_a_call_that_raises_changes_nothing(self):
        for call in RAISING:
            layout, plan, rooms = read_layout(EXAMPLE), [["c", ["room", 0]], ["b", 12], ["b", 0]], [2]
            kept = copy.deepcopy((vars(layout), plan, rooms))
            self.assertEqual(told(call, layout, plan, rooms), not_possible(2, "overlap"))
            self.assertEqual((vars(layout), plan, rooms), kept)


if __name__ == "__main__":
    unittest.main()
