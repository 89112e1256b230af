"""C1 to C3, and "letpast/cells.py" in the interface."""

import copy
import itertools
import unittest

from letpast.cells import BadCells, carried, steps_of, undone
from letpast.errors import LetError
from letpast.layouts import Layout
from letpast.texts import read_layout
from tests.support import (
    Follower, as_lists, bad_plan, bad_rooms, kinds_within, not_possible, plain, random_plans, room, told,
)

CALLS = (carried, steps_of, undone)
LAYOUT = Layout(7, [("k", 1, 3), ("m", 4, 2)])
CELLS = (9, 1, 2, 3, 4, 5, 8)
PLAN = (("m", 5), ("k", 2))


def bad_cells(reason):
    return ("BadCells", {"reason": reason})


def left_aside(*names):
    return ("LeftAside", {"names": names})


class Examples(unittest.TestCase):
    def test_carried(self):
        self.assertEqual(plain(carried(LAYOUT, PLAN, (), CELLS)), ("7 k@2+3 m@5+2", (9, 1, 1, 2, 3, 4, 5)))

    def test_steps_of(self):
        self.assertEqual(plain(steps_of(LAYOUT, PLAN, (), CELLS)), (
            ("7 k@1+3 m@4+2", (), (9, 1, 2, 3, 4, 5, 8)),
            ("7 k@1+3 m@5+2", (), (9, 1, 2, 3, 4, 4, 5)),
            ("7 k@2+3 m@5+2", (), (9, 1, 1, 2, 3, 4, 5)),
        ))

    def test_undone(self):
        self.assertEqual(undone(LAYOUT, PLAN, (), CELLS), (9, 1, 2, 3, 4, 5, 5))

    def test_with_a_room(self):
        layout = Layout(4, [("k", 0, 2), ("m", 2, 1)])
        plan = (("k", ("room", 0)), ("m", 0), ("k", 1))
        self.assertEqual(plain(carried(layout, plan, (2,), (6, 7, 8, 0))), ("4 m@0+1 k@1+2", (8, 6, 7, 0)))
        self.assertEqual(plain(steps_of(layout, plan, (2,), (6, 7, 8, 0))), (
            ("4 k@0+2 m@2+1", ((),), (6, 7, 8, 0)),
            ("4 m@2+1", (("k",),), (6, 7, 8, 0)),
            ("4 m@0+1", (("k",),), (8, 7, 8, 0)),
            ("4 m@0+1 k@1+2", ((),), (8, 6, 7, 0)),
        ))


class Carrying(unittest.TestCase):
    def test_overlap_with_the_cells_that_it_leaves(self):
        layout = read_layout("8 a@2+4")
        for start, cells in (
            (1, (0, 2, 3, 4, 5, 5, 6, 7)), (0, (2, 3, 4, 5, 4, 5, 6, 7)), (2, (0, 1, 2, 3, 4, 5, 6, 7)),
            (3, (0, 1, 2, 2, 3, 4, 5, 7)), (4, (0, 1, 2, 3, 2, 3, 4, 5)),
        ):
            self.assertEqual(carried(layout, [("a", start)], (), tuple(range(8)))[1], cells)

    def test_a_room_keeps_the_numbers(self):
        layout = read_layout("6 a@0+2 b@2+2")
        plan = [("a", room(0)), ("a", room(1)), ("b", 0), ("b", 1), ("b", 4), ("a", 1)]
        self.assertEqual(carried(layout, plan, (2, 3), (11, 12, 13, 14, 15, 16))[1], (13, 11, 12, 14, 13, 14))

    def test_a_room_keeps_the_numbers_of_the_last_time(self):
        layout = read_layout("3 a@0+1 b@1+1")
        plan = [("a", room(0)), ("b", 0), ("a", 1), ("b", room(0)), ("b", 2), ("a", room(0)), ("a", 0)]
        self.assertEqual(carried(layout, plan, (1,), (5, 6, 7))[1], (5, 5, 6))

    def test_numbers_of_any_kind_and_size(self):
        cells = (-3, 0, 10 ** 40, -(10 ** 40))
        layout = read_layout("4 a@0+1 b@2+2")
        self.assertEqual(carried(layout, [("a", 1)], (), cells)[1], (-3, -3, 10 ** 40, -(10 ** 40)))
        self.assertEqual(carried(layout, [("b", 1)], (), cells)[1], (-3, 10 ** 40, -(10 ** 40), -(10 ** 40)))

    def test_without_steps_blocks_or_cells(self):
        self.assertEqual(plain(carried(LAYOUT, (), (), CELLS)), ("7 k@1+3 m@4+2", CELLS))
        self.assertEqual(plain(steps_of(LAYOUT, (), (3, 1), CELLS)), (("7 k@1+3 m@4+2", ((), ()), CELLS),))
        self.assertEqual(undone(LAYOUT, (), (), CELLS), CELLS)
        none = read_layout("0")
        self.assertEqual(plain(carried(none, (), (), ())), ("0", ()))
        self.assertEqual(plain(steps_of(none, (), (), [])), (("0", (), ()),))
        self.assertEqual(undone(none, [], (), ()), ())
        self.assertEqual(undone(read_layout("2"), [], (), (4, 3)), (4, 3))

    def test_undone_through_rooms_and_with_blocks_left_there(self):
        layout = read_layout("4 k@0+2 m@2+1")
        plan = [("k", room(0)), ("m", 0), ("m", 1), ("k", room(1)), ("m", room(0))]
        # Behind the plan (8, 8, 8, 0); undone m comes back to 1, 0 and 2, and k to 0.
        self.assertEqual(undone(layout, plan, (2, 2), (6, 7, 8, 0)), (6, 7, 8, 0))
        self.assertEqual(undone(layout, [("k", room(0)), ("m", 3)], (2,), (6, 7, 8, 0)), (6, 7, 8, 8))

    def test_600_cells_and_601(self):
        cells = tuple(range(600))
        layout = Layout(600, [("a", 0, 300), ("b", 300, 299)])
        behind = carried(layout, [("b", 301), ("a", 1)], (), cells)
        self.assertEqual(plain(behind), ("600 a@1+300 b@301+299", (0, *range(300), *range(300, 599))))
        self.assertEqual(len(steps_of(layout, [("b", 301)], (), cells)), 2)
        self.assertEqual(len(undone(layout, [("b", 301)], (), cells)), 600)
        for call in CALLS:
            for many in (601, 10 ** 31):
                layout = Layout(many, [("a", 0, 300)])
                for given in ((0,) * 601, (), (0,) * 600):
                    self.assertEqual(told(call, layout, [], (), given), bad_cells("many"))

    def test_4000_steps(self):
        layout = read_layout("5 a@0+2 b@2+1")
        plan = [("b", 4), ("a", 1), ("a", 0), ("b", 2)] * 1000
        self.assertEqual(carried(layout, plan, (), (1, 2, 3, 4, 5))[1], (1, 2, 3, 4, 3))
        self.assertEqual(len(steps_of(layout, plan, (), (1, 2, 3, 4, 5))), 4001)
        self.assertEqual(undone(layout, plan, (), (1, 2, 3, 4, 5)), (1, 2, 3, 4, 3))


class WhatIsPromised(unittest.TestCase):
    def test_against_the_numbers_that_the_blocks_had_at_first(self):
        tried = {"left": 0, "empty": 0}
        for text, rooms, plan in random_plans(400, 25):
            layout = read_layout(text)
            cells = tuple(number * number + 3 for number in range(layout.capacity))
            follower = Follower(text, rooms, cells)
            wanted = [(text, follower.rooms_told(), cells)]
            places = []
            for name, place in plan:
                places.append((name, follower.places[name]))
                follower.put(name, place)
                wanted.append((follower.text(), follower.rooms_told(), tuple(follower.row)))
            self.assertEqual(plain(steps_of(layout, plan, rooms, cells)), tuple(wanted))
            aside = tuple(name for name in layout.order if name not in follower.lying())
            tried["left" if aside else "empty"] += 1
            answer = left_aside(*aside) if aside else (follower.text(), tuple(follower.row))
            self.assertEqual(plain(told(carried, layout, plan, rooms, cells)), answer)
            for name, place in places[::-1]:
                follower.put(name, place)
            self.assertEqual(follower.text(), text)
            self.assertEqual(undone(layout, plan, rooms, cells), tuple(follower.row))
        self.assertGreater(min(tried.values()), 50)


class WrongArguments(unittest.TestCase):
    def test_length(self):
        for call in CALLS:
            for cells in ((), CELLS[:-1], CELLS + (1,), [0] * 600):
                self.assertEqual(told(call, LAYOUT, PLAN, (), cells), bad_cells("length"))
            self.assertEqual(told(call, read_layout("0"), (), (), (1,)), bad_cells("length"))
            self.assertEqual(told(call, Layout(600, []), (), (), (1,) * 599), bad_cells("length"))

    def test_not_possible(self):
        for call in CALLS:
            for steps, fault in (
                ([("k", 2)], (0, "overlap")), ([*PLAN, ("m", 6)], (2, "beyond")), ([*PLAN, ("n", 0)], (2, "no block")),
                ([("m", room(1))], (0, "no room")), ([("k", room(0))], (0, "full")),
                ([("m", room(0)), ("m", room(0))], (1, "there already")), ([("m", 5), ("m", 9)], (1, "beyond")),
            ):
                self.assertEqual(told(call, LAYOUT, steps, (2,), CELLS), not_possible(*fault))

    def test_left_aside_is_for_carried_alone(self):
        plan = [("m", room(0)), ("k", room(1))]
        self.assertEqual(told(carried, LAYOUT, plan, (2, 3), CELLS), left_aside("k", "m"))
        self.assertEqual(told(carried, LAYOUT, plan[:1], [2], CELLS), left_aside("m"))
        self.assertEqual(plain(steps_of(LAYOUT, plan, (2, 3), CELLS))[-1], ("7", (("m",), ("k",)), CELLS))
        self.assertEqual(undone(LAYOUT, plan, (2, 3), CELLS), CELLS)

    def test_bad_plan_and_bad_rooms(self):
        for call in CALLS:
            for wrong in (None, ("k", None), ("k", 1, 2), ("k", True), ("k", ("room",)), "k1"):
                self.assertEqual(told(call, LAYOUT, [("m", 5), wrong], (), CELLS), bad_plan(1))
            self.assertEqual(told(call, LAYOUT, [("k", 1)] * 4001, (), CELLS), bad_plan(None))
            self.assertEqual(told(call, LAYOUT, PLAN, [1] * 5, CELLS), bad_rooms(None))
            self.assertEqual(told(call, LAYOUT, PLAN, [0, 10 ** 31, -1], CELLS), bad_rooms(2))
            self.assertEqual(told(call, LAYOUT, PLAN, [10 ** 31 + 1, -1], CELLS), bad_rooms(0))

    def test_several_wrong_things_at_once(self):
        great = Layout(601, [("k", 0, 3), ("m", 4, 2)])
        aside = [("m", room(0))]
        for call in CALLS:
            for layout, reason in ((LAYOUT, "length"), (great, "many")):
                for steps in ([*aside, ("n", 0)], aside):
                    self.assertEqual(told(call, layout, [*steps, ("k", "0")], [2, -1], CELLS[1:]), bad_plan(len(steps)))
                    self.assertEqual(told(call, layout, [*steps, ("k", "0")], [2], CELLS[1:]), bad_plan(len(steps)))
                    self.assertEqual(told(call, layout, steps, [2, -1], CELLS[1:]), bad_rooms(1))
                    self.assertEqual(told(call, layout, steps, [2], CELLS[1:]), bad_cells(reason))
            self.assertEqual(told(call, LAYOUT, [*aside, ("n", 0)], [2], CELLS), not_possible(1, "no block"))

    def test_class_of_the_error(self):
        self.assertTrue(issubclass(BadCells, LetError))


class Kinds(unittest.TestCase):
    def test_lists_stand_for_tuples_and_nothing_is_changed(self):
        plan, rooms = (("k", room(0)), ("m", 0), ("k", room(1)), ("k", 2)), (3, 4)
        for call in CALLS:
            wanted = plain(call(LAYOUT, plan, rooms, CELLS))
            for given in itertools.product((plan, as_lists(plan), list(plan)), (rooms, list(rooms)), (CELLS, list(CELLS))):
                kept = copy.deepcopy((vars(LAYOUT), given))
                answer = call(LAYOUT, *given)
                self.assertEqual(plain(answer), wanted)
                self.assertNotIn(list, kinds_within(answer))
                self.assertEqual((vars(LAYOUT), given), kept)

    def test_a_call_that_raises_changes_nothing(self):
        for call in CALLS:
            given = [[["m", 5], ["k", ["room", 0]], ["m", 6]], [3], list(CELLS)]
            kept = copy.deepcopy((vars(LAYOUT), given))
            self.assertEqual(told(call, LAYOUT, *given), not_possible(2, "beyond"))
            self.assertEqual((vars(LAYOUT), given), kept)


if __name__ == "__main__":
    unittest.main()
