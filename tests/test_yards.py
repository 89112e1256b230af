"""G1 to G3, and "letpast/yards.py" in the interface."""

import copy
import itertools
import random
import unittest

from letpast.crossings import order_plan
from letpast.errors import LetError
from letpast.gaps import gap_plan
from letpast.layouts import Layout
from letpast.orders import blocking_pair
from letpast.plans import checked
from letpast.texts import write_layout
from letpast.yards import BadEvent, BadPut, NothingToUndo, NotReached, Yard, replayed
from tests.support import WithinSeconds, as_lists, bad_order, bad_rooms, kinds_within, not_possible, told

EVENTS = (("put", "a", 8), ("put", "b", 3), ("put", "c", 2), ("move", "c", 14), ("reorder", ("b", "a", "c")),
          ("take away", "a"), ("put", "d", 9))
NO_BLOCK = ("NoBlock", {})


def bad_put(reason):
    return ("BadPut", {"reason": reason})


def bad_event(number):
    return ("BadEvent", {"number": number})


def bad_capacity():
    return ("BadLayout", {"number": None, "reason": "capacity"})


def all_of(yard):
    """Everything that a yard tells of itself."""
    return write_layout(yard.layout()), yard.rooms(), yard.toll(), yard.journal()


def yard_of(text_blocks, capacity, rooms=()):
    """A yard in which blocks (name, size) were put one after the other."""
    return replayed(capacity, rooms, [("put", name, size) for name, size in text_blocks])


class Empty(unittest.TestCase):
    def test_at_first(self):
        for capacity, rooms in ((0, ()), (10, [2, 3]), (10 ** 31, (10 ** 31,) * 4), (7, (0, 0, 0, 0))):
            yard = Yard(capacity, rooms)
            self.assertEqual(all_of(yard), (str(capacity), tuple(rooms), 0, ()))
            self.assertIsInstance(yard.layout(), Layout)
            self.assertIs(type(yard.rooms()), tuple)

    def test_wrong_rooms_then_wrong_capacity(self):
        for make in (Yard, lambda capacity, rooms: replayed(capacity, rooms, [("no", "event")])):
            for capacity in (-1, 10 ** 31 + 1):
                self.assertEqual(told(make, capacity, ()), bad_capacity())
                self.assertEqual(told(make, capacity, [1] * 5), bad_rooms(None))
                self.assertEqual(told(make, capacity, [1, 10 ** 31 + 1, -1]), bad_rooms(1))
            self.assertEqual(told(make, 5, [-1]), bad_rooms(0))

    def test_later_changes_of_the_rooms_change_nothing(self):
        rooms = [2, 3]
        yard = Yard(10, rooms)
        rooms[0] = 9
        self.assertEqual(yard.rooms(), (2, 3))

    def test_capacity_0(self):
        yard = Yard(0, (5,))
        self.assertEqual(told(yard.put, "a", 1), bad_put("full"))
        self.assertEqual(told(yard.take_away, "a"), NO_BLOCK)
        self.assertEqual(told(yard.move, "a", 0), NO_BLOCK)
        self.assertEqual(told(yard.undo), ("NothingToUndo", {}))
        self.assertEqual(told(yard.reorder, ("a",)), bad_order(0, "block"))
        self.assertEqual(yard.reorder(()), 0)
        self.assertEqual(all_of(yard), ("0", (5,), 0, (("reorder", ()),)))
        self.assertEqual(yard.undo(), ("reorder", ()))


class Putting(unittest.TestCase):
    def test_example(self):
        yard = Yard(10, ())
        self.assertEqual((yard.put("a", 4), yard.put("b", 3), yard.take_away("a")), (0, 4, 4))
        self.assertEqual((write_layout(yard.layout()), yard.toll()), ("10 b@4+3", 0))
        self.assertEqual(yard.put("c", 6), 3)
        self.assertEqual((write_layout(yard.layout()), yard.toll()), ("10 b@0+3 c@3+6", 3))

    def test_a_gap_that_is_just_long_enough_and_one_cell_more(self):
        yard = yard_of((("a", 3), ("b", 4), ("c", 2)), 12)
        yard.take_away("b")
        self.assertEqual((yard.put("d", 4), yard.toll()), (3, 0))
        yard.undo()
        self.assertEqual((yard.put("d", 5), yard.toll()), (5, 2))
        self.assertEqual(write_layout(yard.layout()), "12 a@0+3 c@3+2 d@5+5")

    def test_the_first_gap_that_is_long_enough(self):
        yard = yard_of((("a", 2), ("b", 1), ("c", 3), ("d", 1)), 10)
        yard.take_away("a")
        yard.take_away("c")
        self.assertEqual((yard.put("e", 1), yard.put("f", 3), yard.put("g", 2), yard.toll()), (0, 3, 7, 0))
        self.assertEqual(write_layout(yard.layout()), "10 e@0+1 b@2+1 f@3+3 d@6+1 g@7+2")

    def test_all_free_cells_wherever_they_lie_and_one_more(self):
        yard = yard_of((("a", 2), ("b", 2), ("c", 2), ("d", 2)), 10)
        yard.take_away("a")
        yard.take_away("c")
        before = all_of(yard)
        self.assertEqual(told(yard.put, "e", 7), bad_put("full"))
        self.assertEqual(all_of(yard), before)
        self.assertEqual((yard.put("e", 6), yard.toll()), (4, 4))
        self.assertEqual(write_layout(yard.layout()), "10 b@0+2 d@2+2 e@4+6")
        self.assertEqual(told(yard.put, "f", 1), bad_put("full"))

    def test_twelve_blocks_and_a_thirteenth_one(self):
        yard = Yard(30, ())
        self.assertEqual([yard.put(f"n{number}", 2) for number in range(12)], list(range(0, 24, 2)))
        before = all_of(yard)
        self.assertEqual(told(yard.put, "n12", 1), bad_put("many"))
        self.assertEqual(told(yard.put, "n12", 7), bad_put("many"))
        self.assertEqual(told(yard.put, "n11", 1), bad_put("taken"))
        self.assertEqual(all_of(yard), before)
        self.assertEqual((yard.take_away("n3"), yard.put("n12", 7), yard.toll()), (2, 22, 16))

    def test_wrong_names_and_sizes(self):
        yard = yard_of((("a", 4),), 10)
        for name in ("", "A", "1a", "a b", "abcdefghi", "a_", "aA", " a"):
            for size in (1, 0, 10 ** 30 + 1, 7):
                self.assertEqual(told(yard.put, name, size), bad_put("name"))
        for size in (0, -1, 10 ** 30 + 1):
            self.assertEqual(told(yard.put, "b", size), bad_put("size"))
            self.assertEqual(told(yard.put, "a", size), bad_put("size"))
        for size in (1, 6, 7, 10 ** 30):
            self.assertEqual(told(yard.put, "a", size), bad_put("taken"))
        for size in (7, 10 ** 30):
            self.assertEqual(told(yard.put, "b", size), bad_put("full"))
        self.assertEqual(all_of(yard), ("10 a@0+4", (), 0, (("put", "a", 4),)))
        self.assertEqual(yard.put("a234567z", 6), 4)

    def test_greatest_sizes(self):
        yard = Yard(10 ** 31, ())
        self.assertEqual([yard.put(f"n{number}", 10 ** 30) for number in range(10)], [k * 10 ** 30 for k in range(10)])
        self.assertEqual(told(yard.put, "n10", 1), bad_put("full"))
        yard.take_away("n0")
        self.assertEqual((yard.move("n9", 0), yard.toll()), (9 * 10 ** 30, 10 ** 30))
        self.assertEqual(yard.put("n0", 10 ** 30), 9 * 10 ** 30)


class TakingAway(unittest.TestCase):
    def test_no_other_one_is_moved(self):
        yard = yard_of((("a", 2), ("b", 3), ("c", 1)), 8)
        self.assertEqual((yard.take_away("b"), yard.take_away("c")), (3, 1))
        self.assertEqual(write_layout(yard.layout()), "8 a@0+2")
        self.assertEqual((yard.take_away("a"), write_layout(yard.layout()), yard.toll()), (2, "8", 0))

    def test_no_block(self):
        yard = yard_of((("a", 2),), 8)
        before = all_of(yard)
        for name in ("b", "", "A", "aa"):
            self.assertEqual(told(yard.take_away, name), NO_BLOCK)
        self.assertEqual(all_of(yard), before)
        yard.take_away("a")
        self.assertEqual(told(yard.take_away, "a"), NO_BLOCK)


class Moving(unittest.TestCase):
    def test_it_tells_the_start_that_the_block_had(self):
        yard = yard_of((("a", 2), ("b", 3)), 9)
        self.assertEqual((yard.move("b", 6), yard.toll()), (2, 3))
        self.assertEqual((yard.move("a", 1), yard.toll()), (0, 5))
        self.assertEqual((yard.move("b", 3), yard.toll()), (6, 8))
        self.assertEqual(write_layout(yard.layout()), "9 a@1+2 b@3+3")

    def test_over_others_and_over_the_cells_that_it_leaves(self):
        yard = yard_of((("a", 2), ("b", 3)), 9)
        self.assertEqual((yard.move("a", 7), yard.layout().order), (0, ("b", "a")))
        self.assertEqual((yard.move("b", 1), write_layout(yard.layout())), (2, "9 b@1+3 a@7+2"))

    def test_where_it_was_counts_too(self):
        yard = yard_of((("a", 2), ("b", 3)), 9)
        self.assertEqual((yard.move("b", 2), yard.toll()), (2, 3))
        self.assertEqual((yard.move("b", 2), yard.toll()), (2, 6))
        self.assertEqual(yard.journal()[2:], (("move", "b", 2), ("move", "b", 2)))

    def test_errors_in_their_order(self):
        yard = yard_of((("a", 2), ("b", 3)), 9, (5,))
        before = all_of(yard)
        for start in (-1, 0, 3, 99):
            self.assertEqual(told(yard.move, "c", start), NO_BLOCK)
        for start in (-1, -10 ** 31, 7, 8, 9, 10 ** 40):
            self.assertEqual(told(yard.move, "b", start), not_possible(0, "beyond"))
        for start in (0, 1):
            self.assertEqual(told(yard.move, "b", start), not_possible(0, "overlap"))
        self.assertEqual(told(yard.move, "a", 8), not_possible(0, "beyond"))
        self.assertEqual(told(yard.move, "a", 4), not_possible(0, "overlap"))
        self.assertEqual(all_of(yard), before)


class Reordering(unittest.TestCase):
    def test_example_of_order_plan(self):
        yard = yard_of((("a", 8), ("b", 3), ("c", 2)), 15, (2,))
        self.assertEqual((yard.reorder(("b", "a", "c")), yard.toll()), (2 + 3 + 8 + 3 + 8 + 2, 26))
        self.assertEqual(all_of(yard)[:2], ("15 b@0+3 a@3+8 c@11+2", (2,)))
        self.assertEqual(yard.journal()[-1], ("reorder", ("b", "a", "c")))

    def test_nothing_to_carry(self):
        yard = yard_of((("a", 8), ("b", 3)), 12)
        self.assertEqual((yard.reorder(["a", "b"]), yard.toll()), (0, 0))
        self.assertEqual(yard.journal()[-1], ("reorder", ("a", "b")))

    def test_not_reached_with_the_rooms_of_the_yard(self):
        for rooms, wanted in (((), ("NotReached", {})), ((1, 1), ("NotReached", {})), ((2,), 26), ((3,), 16)):
            yard = yard_of((("a", 8), ("b", 3), ("c", 2)), 15, rooms)
            before = all_of(yard)
            self.assertEqual(told(yard.reorder, ("b", "a", "c")), wanted, rooms)
            if wanted == ("NotReached", {}):
                self.assertEqual(all_of(yard), before)

    def test_wrong_orders(self):
        yard = yard_of((("a", 8), ("b", 3), ("c", 2)), 15)
        before = all_of(yard)
        for order, wrong in (
            (("b", "d"), (1, "block")), (("b", "b"), (1, "twice")), (("b", "a"), (None, "length")), ((), (None, "length")),
            (["b", "a", "c", "a"], (3, "twice")), (["b", "a", "c", ""], (3, "block")),
        ):
            self.assertEqual(told(yard.reorder, order), bad_order(*wrong))
        self.assertEqual(all_of(yard), before)

    def test_twelve_blocks_and_four_rooms_within_a_limit_of_time(self):
        size = 8 * 10 ** 29
        yard = Yard(10 ** 31, [size, size // 2, 10 ** 31, 0])
        for number in range(12):
            yard.put(f"n{number}", size - number * 10 ** 28)
        order = yard.layout().order[::-1]
        with WithinSeconds(3):
            moved = yard.reorder(order)
        self.assertEqual((yard.layout().order, yard.toll()), (order, moved))


class Undoing(unittest.TestCase):
    def test_each_event(self):
        yard = Yard(16, (2,))
        states = [all_of(yard)]
        for event in EVENTS:
            do(yard, event)
            states.append(all_of(yard))
        self.assertEqual(states[-1], ("16 b@0+3 d@3+9 c@14+2", (2,), 2 + 3 + 8 + 3, EVENTS))
        for number in range(len(EVENTS) - 1, -1, -1):
            self.assertEqual(yard.undo(), EVENTS[number])
            self.assertEqual(all_of(yard), states[number])
        self.assertEqual(told(yard.undo), ("NothingToUndo", {}))
        self.assertEqual(all_of(yard), states[0])

    def test_events_behind_an_undone_one(self):
        yard = Yard(10, ())
        yard.put("a", 4)
        yard.put("b", 3)
        yard.undo()
        self.assertEqual(yard.put("c", 2), 4)
        self.assertEqual(yard.journal(), (("put", "a", 4), ("put", "c", 2)))
        self.assertEqual((yard.undo(), yard.undo()), (("put", "c", 2), ("put", "a", 4)))
        self.assertEqual(told(yard.undo), ("NothingToUndo", {}))

    def test_what_raised_an_error_is_no_event(self):
        yard = Yard(10, ())
        yard.put("a", 4)
        for call, arguments in ((yard.put, ("a", 1)), (yard.move, ("a", 7)), (yard.take_away, ("b",)), (yard.reorder, ((),))):
            self.assertEqual(type(told(call, *arguments)), tuple)
        self.assertEqual(yard.journal(), (("put", "a", 4),))
        self.assertEqual(yard.undo(), ("put", "a", 4))

    def test_the_layout_of_an_earlier_time_stays_as_it_was(self):
        yard = Yard(10, ())
        yard.put("a", 4)
        layout, journal = yard.layout(), yard.journal()
        yard.move("a", 6)
        yard.undo()
        yard.take_away("a")
        self.assertEqual((write_layout(layout), journal), ("10 a@0+4", (("put", "a", 4),)))


def do(yard, event):
    """What a yard answers to an event of the forms that a journal has."""
    word, *arguments = event
    return getattr(yard, word.replace(" ", "_"))(*arguments)


class Model:
    """A yard's layout, toll and journal, by the functions for plans."""

    def __init__(self, capacity, rooms):
        self.states, self.rooms = [(Layout(capacity, ()), 0, ())], rooms

    def now(self):
        layout, toll, journal = self.states[-1]
        return write_layout(layout), self.rooms, toll, journal

    def expect(self, event):
        """The answer to an event; the states go on if it is no error."""
        layout, toll, journal = self.states[-1]
        answer, plan, rest = getattr(self, event[0].replace(" ", "_"))(layout, *event[1:])
        if rest is None:
            return answer
        behind, _, fault = checked(layout, plan, self.rooms)
        assert fault is None
        toll += sum(layout.size_of(name) for name, _ in plan)
        self.states.append((Layout(layout.capacity, rest(behind.blocks)), toll, (*journal, event)))
        return answer

    def put(self, layout, name, size):
        reasons = (name in layout.order, "taken"), (len(layout.order) == 12, "many"), (layout.free < size, "full")
        for holds, reason in reasons:
            if holds:
                return bad_put(reason), (), None
        start, _, plan = gap_plan(layout, size)
        return start, plan, lambda blocks: (*blocks, (name, start, size))

    def take_away(self, layout, name):
        if name not in layout.order:
            return NO_BLOCK, (), None
        return layout.size_of(name), (), lambda blocks: [block for block in blocks if block[0] != name]

    def move(self, layout, name, start):
        if name not in layout.order:
            return NO_BLOCK, (), None
        _, _, fault = checked(layout, ((name, start),), ())
        if fault is not None:
            return not_possible(*fault), (), None
        return layout.start_of(name), ((name, start),), lambda blocks: blocks

    def reorder(self, layout, order):
        if blocking_pair(layout, order, self.rooms) is not None:
            return ("NotReached", {}), (), None
        plan = order_plan(layout, order, self.rooms)
        return sum(layout.size_of(name) for name, _ in plan), plan, lambda blocks: blocks


class Chance(unittest.TestCase):
    def event(self, chance, layout):
        word = chance.choice(("put", "put", "put", "take away", "move", "move", "reorder"))
        name = chance.choice("abcdefghijklmn")
        if word == "put":
            return word, name, chance.randrange(1, 6)
        if word == "take away":
            return word, name
        if word == "move":
            return word, chance.choice(layout.order or "a"), chance.randrange(-1, layout.capacity)
        return word, tuple(chance.sample(layout.order, len(layout.order)))

    def test_events_and_undo_against_the_functions_for_plans(self):
        chance = random.Random(11)
        for capacity, rooms in ((12, ()), (20, (2,)), (40, (3, 1)), (25, (0, 2, 2, 1)), (14, (6,))):
            yard, model = Yard(capacity, rooms), Model(capacity, rooms)
            for _ in range(150):
                if chance.randrange(5) == 0:
                    wanted = ("NothingToUndo", {}) if len(model.states) == 1 else model.states.pop()[2][-1]
                    self.assertEqual(told(yard.undo), wanted)
                else:
                    event = self.event(chance, yard.layout())
                    self.assertEqual(told(do, yard, event), model.expect(event), event)
                self.assertEqual(all_of(yard), model.now())
            self.replay(yard)

    def replay(self, yard):
        again = replayed(yard.layout().capacity, yard.rooms(), yard.journal())
        self.assertEqual(all_of(again), all_of(yard))
        while again.journal():
            self.assertEqual(again.undo(), yard.undo())
            self.assertEqual(all_of(again), all_of(yard))

    def test_a_block_can_be_put_exactly_if_enough_cells_are_free(self):
        chance = random.Random(12)
        for _ in range(60):
            yard = Yard(12, ())
            for name in "abcd":
                told(yard.put, name, chance.randrange(1, 4))
                told(yard.move, name, chance.randrange(12))
            order, free = yard.layout().order, yard.layout().free
            for size in range(1, 14):
                answer = told(yard.put, "new", size)
                self.assertEqual(answer == bad_put("full"), size > free)
                if size <= free:
                    self.assertEqual(tuple(name for name in yard.layout().order if name != "new"), order)
                    self.assertEqual(yard.layout().start_of("new"), answer)
                    yard.undo()


class Replayed(unittest.TestCase):
    def test_tuples_and_lists(self):
        wanted = Yard(16, (2,))
        for event in EVENTS:
            do(wanted, event)
        for events in (EVENTS, list(EVENTS), as_lists(EVENTS), tuple(as_lists(EVENTS)), wanted.journal()):
            kept = copy.deepcopy(events)
            for rooms in ((2,), [2]):
                yard = replayed(16, rooms, events)
                self.assertIsInstance(yard, Yard)
                self.assertEqual(all_of(yard), all_of(wanted))
                self.assertNotIn(list, kinds_within(yard.journal()))
            self.assertEqual(events, kept)

    def test_without_events(self):
        self.assertEqual(all_of(replayed(7, [1], ())), ("7", (1,), 0, ()))

    def test_the_first_event_that_raises_an_error(self):
        for wrong in (
            ("put", "A", 1), ("put", "e", 0), ("put", "e", 99), ("take away", "e"), ("move", "e", 0), ["move", "e", 0],
            ("reorder", ("b", "e")), ["reorder", ["b", "b"]], ("reorder", ["a", "b", "c", "d"]),
        ):
            for number in range(len(EVENTS) + 1):
                events = [*EVENTS[:number], wrong, ("put", "", 0), *EVENTS[number:]]
                self.assertEqual(told(replayed, 16, (2,), events), bad_event(number))

    def test_errors_of_all_kinds(self):
        for event in (
            ("put", "b", 1), ("put", "e", 3), ("move", "b", -1), ("move", "b", 1), ("move", "a", 0), ("take away", "a"),
            ("reorder", ("b", "d")), ("reorder", ("b", "d", "c", "b")),
        ):
            self.assertEqual(told(replayed, 16, (2,), [*EVENTS, event]), bad_event(7), event)
        self.assertEqual(told(replayed, 16, (), [*EVENTS, ("reorder", ("d", "b", "c"))]), bad_event(7))
        many = [("put", f"n{number}", 1) for number in range(13)]
        self.assertEqual(told(replayed, 16, (), many), bad_event(12))

    def test_rooms_and_capacity_ahead_of_events(self):
        events = [("put", "A", 1)]
        self.assertEqual(told(replayed, -1, [-1], events), bad_rooms(0))
        self.assertEqual(told(replayed, -1, [1] * 5, events), bad_rooms(None))
        self.assertEqual(told(replayed, -1, (), events), bad_capacity())
        self.assertEqual(told(replayed, 10 ** 31 + 1, (), events), bad_capacity())
        self.assertEqual(told(replayed, 10, (), events), bad_event(0))

    def test_an_order_that_is_not_reached(self):
        events = [("put", "a", 2), ("put", "b", 2), ("reorder", ("b", "a"))]
        self.assertEqual(told(replayed, 5, (), events), bad_event(2))
        self.assertEqual(write_layout(replayed(5, [2], events).layout()), "5 b@0+2 a@3+2")


class Kinds(unittest.TestCase):
    def test_lists_stand_for_tuples_and_nothing_is_changed(self):
        order = ["b", "a", "c"]
        yard = yard_of((("a", 8), ("b", 3), ("c", 2)), 15, [2])
        yard.reorder(order)
        order.reverse()
        self.assertEqual(yard.journal()[-1], ("reorder", ("b", "a", "c")))
        yard.move("c", 13)
        yard.take_away("c")
        answers = (yard.rooms(), yard.toll(), yard.journal(), yard.layout().blocks, yard.undo())
        self.assertEqual(kinds_within(answers), {tuple, str, int})

    def test_two_yards_have_nothing_in_common(self):
        one, other = Yard(9, ()), Yard(9, ())
        one.put("a", 3)
        self.assertEqual(all_of(other), ("9", (), 0, ()))

    def test_classes_of_the_errors(self):
        for error in (BadPut, NotReached, NothingToUndo, BadEvent):
            self.assertTrue(issubclass(error, LetError))

    def test_all_permutations_of_three_blocks_come_back(self):
        yard = yard_of((("a", 1), ("b", 2), ("c", 3)), 8)
        before = all_of(yard)
        for order in itertools.permutations("abc"):
            answer = told(yard.reorder, order)
            if answer != ("NotReached", {}):
                self.assertEqual(yard.layout().order, order)
                yard.undo()
            self.assertEqual(all_of(yard), before)


if __name__ == "__main__":
    unittest.main()
