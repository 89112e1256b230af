"""B1 to B4, and "letpast/plans.py" in the interface."""

import itertools
import unittest

from letpast.layouts import Layout
from letpast.plans import cells_moved, checked, joined, reversed_plan, states_of
from letpast.texts import read_layout, write_layout
from tests.support import Follower, not_possible, plain, random_plans, room, told

EXAMPLE = "16 a@0+8 b@8+3 c@11+2"
RAISING = (states_of, cells_moved, joined, reversed_plan)


def look(text, plan, rooms):
    """What checked tells, with the text of the layout."""
    return plain(checked(read_layout(text), plan, rooms))


def moves_told(text, plan):
    """The triples (name, place ahead, place behind) of a possible plan."""
    follower = Follower(text, ())
    moves = []
    for name, place in plan:
        moves.append((name, follower.places[name], place))
        follower.put(name, place)
    return moves


def joined_another_way(moves):
    """The rewriting of B3 from the end of the plan on, until there is nothing to rewrite."""
    moves = list(moves)
    at = len(moves) - 1
    while at >= 0:
        if moves[at][1] == moves[at][2]:
            del moves[at]
            at = min(at + 1, len(moves)) - 1
        elif at + 1 < len(moves) and moves[at][0] == moves[at + 1][0]:
            moves[at:at + 2] = [(moves[at][0], moves[at][1], moves[at + 1][2])]
        else:
            at -= 1
    return tuple((name, behind) for name, _, behind in moves)


class Reasons(unittest.TestCase):
    def stopped(self, text, plan, rooms, number, reason):
        """Each function tells where the plan stops; checked tells what was done ahead of it."""
        ahead = look(text, plan[:number], rooms)
        self.assertIsNone(ahead[2])
        self.assertEqual(look(text, plan, rooms), (ahead[0], ahead[1], (number, reason)))
        self.assertEqual(look(text, [*plan, ("a", 0)], rooms), (ahead[0], ahead[1], (number, reason)))
        for call in RAISING:
            self.assertEqual(told(call, read_layout(text), plan, rooms), not_possible(number, reason))

    def fine(self, text, plan, rooms, text_behind, names):
        self.assertEqual(look(text, plan, rooms), (text_behind, names, None))

    def test_example(self):
        plan = [("c", room(0)), ("b", 12), ("b", room(0))]
        self.assertEqual(look(EXAMPLE, plan, [2]), ("16 a@0+8 b@12+3", (("c",),), (2, "full")))
        self.stopped(EXAMPLE, plan, (2,), 2, "full")

    def test_no_block(self):
        for name in ("d", "", "A", "aa", "a ", "no such name", "room"):
            for place in (0, -1, 99, room(0), room(7)):
                self.stopped(EXAMPLE, [("c", 13), (name, place)], [9], 1, "no block")
        self.stopped("7", [("a", 0)], [9], 0, "no block")

    def test_no_room(self):
        for rooms, wrong in (((), (0, -1, 1)), ((2,), (1, -1, 10 ** 40)), ((9, 9, 9, 9), (4, -1, -4))):
            for number in wrong:
                self.stopped(EXAMPLE, [("c", room(number))], rooms, 0, "no room")

    def test_each_of_four_rooms(self):
        for number in range(4):
            names = tuple(("c",) if k == number else () for k in range(4))
            self.fine(EXAMPLE, [("c", room(number))], (2, 2, 2, 2), "16 a@0+8 b@8+3", names)

    def test_there_already(self):
        self.stopped(EXAMPLE, [("c", room(0)), ("c", room(0))], [2], 1, "there already")
        self.stopped(EXAMPLE, [("c", room(1)), ("b", 13), ("c", room(1))], [2, 20], 2, "there already")

    def test_a_block_that_left_a_room_can_come_back(self):
        plan = [("c", room(0)), ("c", 14), ("c", room(0))]
        self.fine(EXAMPLE, plan, [2], "16 a@0+8 b@8+3", (("c",),))

    def test_a_block_can_go_from_room_to_room(self):
        plan = [("c", room(0)), ("c", room(1)), ("b", room(0))]
        self.fine(EXAMPLE, plan, [3, 2], "16 a@0+8", (("b",), ("c",)))
        self.stopped(EXAMPLE, [("c", room(0)), ("c", room(1))], [3, 1], 1, "full")

    def test_full(self):
        self.stopped(EXAMPLE, [("c", room(0))], [1], 0, "full")
        self.stopped(EXAMPLE, [("c", room(1)), ("b", room(1))], [9, 4], 1, "full")
        self.stopped(EXAMPLE, [("b", room(0)), ("c", room(0)), ("a", room(0))], [12], 2, "full")

    def test_a_room_that_is_just_full(self):
        self.fine(EXAMPLE, [("c", room(0))], [2], "16 a@0+8 b@8+3", (("c",),))
        plan = [("c", room(0)), ("a", room(0)), ("b", room(0))]
        self.fine(EXAMPLE, plan, [13], "16", (("a", "b", "c"),))

    def test_rooms_without_cells(self):
        for number in range(4):
            self.stopped(EXAMPLE, [("c", room(number))], (0, 0, 0, 0), 0, "full")

    def test_other_rooms_do_not_count(self):
        plan = [("c", room(0)), ("b", room(1))]
        self.fine(EXAMPLE, plan, [2, 3], "16 a@0+8", (("c",), ("b",)))

    def test_beyond(self):
        for start in (-1, -10 ** 31, 15, 16, 10 ** 40):
            self.stopped(EXAMPLE, [("c", start)], [2], 0, "beyond")
            self.stopped(EXAMPLE, [("c", room(0)), ("c", start)], [2], 1, "beyond")

    def test_places_at_0_and_at_the_end_of_the_capacity(self):
        self.fine("9 a@3+2 b@5+2", [("a", 0), ("b", 7), ("a", 2), ("a", 0)], (), "9 a@0+2 b@7+2", ())
        self.fine("2 a@0+2", [("a", 0), ("a", room(0)), ("a", 0)], [2], "2 a@0+2", ((),))
        self.fine("9 a@0+9", [("a", 0)], (), "9 a@0+9", ())

    def test_overlap(self):
        for start in (7, 8, 10):
            self.stopped(EXAMPLE, [("c", start)], [2], 0, "overlap")
        self.stopped(EXAMPLE, [("b", 12), ("b", 10)], [2], 0, "overlap")
        self.stopped(EXAMPLE, [("c", room(0)), ("b", 11), ("c", 12)], [2], 2, "overlap")

    def test_blocks_in_rooms_are_in_nobodys_way(self):
        plan = [("b", room(0)), ("c", 8)]
        self.fine(EXAMPLE, plan, [3], "16 a@0+8 c@8+2", (("b",),))

    def test_a_block_may_overlap_the_cells_that_it_leaves_and_may_stay(self):
        plan = [("c", 12), ("c", 11), ("c", 11), ("b", 8), ("a", 0)]
        self.fine(EXAMPLE, plan, (), EXAMPLE, ())
        self.assertEqual(cells_moved(read_layout(EXAMPLE), plan, ()), 4)

    def test_the_first_reason(self):
        full = [("b", room(0)), ("c", room(0))]
        self.stopped(EXAMPLE, [*full, ("c", room(0))], [5], 2, "there already")
        self.stopped(EXAMPLE, [("b", 14)], [5], 0, "beyond")
        self.stopped(EXAMPLE, [("a", -1)], [5], 0, "beyond")
        self.stopped(EXAMPLE, [*full, ("z", room(0))], [5], 2, "no block")

    def test_the_first_step_counts(self):
        self.stopped(EXAMPLE, [("c", 13), ("c", 9), ("z", 0), ("c", -1)], (), 1, "overlap")

    def test_greatest_numbers(self):
        great = 10 ** 30
        layout = Layout(10 ** 31, [("a", 0, great), ("b", great, great), ("c", 9 * great, great)])
        plan = [("c", room(0)), ("a", room(0)), ("a", 9 * great), ("b", 0), ("c", great)]
        behind, names, fault = checked(layout, plan, [2 * great])
        self.assertEqual(behind.blocks, (("b", 0, great), ("c", great, great), ("a", 9 * great, great)))
        self.assertEqual((names, fault), (((),), None))
        self.assertEqual(checked(layout, plan, [2 * great - 1])[2], (1, "full"))
        self.assertEqual(checked(layout, [("a", 9 * great + 1)], [])[2], (0, "beyond"))
        self.assertEqual(checked(layout, [("a", 8 * great + 1)], [])[2], (0, "overlap"))
        self.assertEqual(cells_moved(layout, plan, [10 ** 31]), 5 * great)

    def test_names_in_rooms_are_in_the_order_of_the_layout(self):
        plan = [("b", 6), ("c", 0), ("c", room(1)), ("a", room(1)), ("b", room(1))]
        for text in ("9 c@1+1 b@2+1 a@3+1", "9 a@1+1 b@2+1 c@3+1"):
            order = read_layout(text).order
            self.fine(text, plan, (1, 3), "9", ((), order))
            self.assertEqual([name for name, _ in states_of(read_layout(text), plan, (1, 3))[-1]], list(order))

    def test_twelve_blocks(self):
        layout = Layout(24, [(f"n{number}", 2 * number, 1) for number in range(12)])
        plan = [(name, 2 * number + 1) for number, name in enumerate(layout.order)]
        behind, names, fault = checked(layout, plan + [("n11", room(0))], [1])
        self.assertEqual(behind.blocks, tuple((name, start, 1) for name, start in plan[:11]))
        self.assertEqual((names, fault), ((("n11",),), None))
        self.assertEqual((states_of(layout, plan, ())[-1], cells_moved(layout, plan, ())), (tuple(plan), 12))
        self.assertEqual(joined(layout, plan * 2, ()), tuple(plan))

    def test_without_blocks(self):
        self.fine("0", [], (), "0", ())
        self.fine("7", (), (1, 0), "7", ((), ()))


class States(unittest.TestCase):
    def test_all_states(self):
        plan = [["c", ["room", 0]], ["b", 9], ["b", 9], ["c", 14]]
        self.assertEqual(states_of(read_layout(EXAMPLE), plan, [2]), (
            (("a", 0), ("b", 8), ("c", 11)), (("a", 0), ("b", 8), ("c", room(0))), (("a", 0), ("b", 9), ("c", room(0))),
            (("a", 0), ("b", 9), ("c", room(0))), (("a", 0), ("b", 9), ("c", 14)),
        ))

    def test_without_steps_or_blocks(self):
        self.assertEqual(states_of(read_layout("9 b@1+2 a@4+1"), (), ()), ((("b", 1), ("a", 4)),))
        self.assertEqual(states_of(read_layout("9"), (), (3,)), ((),))

    def test_the_order_stays_that_of_the_first_layout(self):
        states = states_of(read_layout("9 b@1+2 a@4+1"), [("b", 7), ("a", 0)], ())
        self.assertEqual(states[1:], ((("b", 7), ("a", 4)), (("b", 7), ("a", 0))))


class Joined(unittest.TestCase):
    def test_example(self):
        layout = read_layout(EXAMPLE)
        plan = [("c", 12), ("c", 14), ("b", 9), ("b", 8), ("b", 11), ("c", 8)]
        left = (("c", 14), ("b", 11), ("c", 8))
        for rooms in ((), [2]):
            self.assertEqual(joined(layout, plan, rooms), left)
            self.assertEqual((cells_moved(layout, plan, rooms), cells_moved(layout, left, rooms)), (15, 7))

    def test_small_ones(self):
        text = "12 a@2+2 b@5+2 c@8+2"
        for plan, left in (
            ((), ()),
            ([("a", 2)], ()),
            ([("a", 2), ("a", 2), ("b", 5)], ()),
            ([("a", 0)], (("a", 0),)),
            ([("a", 0), ("a", 2)], ()),
            ([("a", 0), ("a", 1), ("a", 3)], (("a", 3),)),
            ([("a", 0), ("b", 5), ("a", 1)], (("a", 1),)),
            ([("a", 0), ("b", 6), ("b", 5), ("a", 1)], (("a", 1),)),
            ([("a", 0), ("b", 6), ("b", 5), ("a", 2)], ()),
            ([("a", 0), ("b", 6), ("c", 9), ("c", 8), ("b", 5), ("a", 2), ("c", 10)], (("c", 10),)),
            ([("a", 0), ("b", 6), ("a", 2)], (("a", 0), ("b", 6), ("a", 2))),
            ([("a", 0), ("b", 6), ("a", 0), ("b", 4)], (("a", 0), ("b", 4))),
            ([("a", room(0)), ("a", room(1))], (("a", room(1)),)),
            ([("a", room(0)), ("b", 4), ("b", 5), ("a", 2)], ()),
            ([("a", room(0)), ("b", 4), ("a", 2)], (("a", room(0)), ("b", 4), ("a", 2))),
            ([("c", 0), ("a", room(0)), ("a", room(1)), ("a", 2), ("c", room(0)), ("c", 8)], ()),
        ):
            self.assertEqual(joined(read_layout(text), plan, [2, 3]), left, plan)

    def test_4000_steps(self):
        layout = read_layout("9 a@0+2 b@4+2")
        plan = [("a", 2), ("b", 5), ("b", 4), ("a", 0)] * 1000
        self.assertEqual((joined(layout, plan, ()), cells_moved(layout, plan, ())), ((), 8000))
        plan = [("a", 2), ("b", 5), ("a", 0), ("b", 4)] * 1000
        self.assertEqual((joined(layout, plan, ()), cells_moved(layout, plan, ())), (tuple(plan), 8000))

    def test_what_is_promised_of_it(self):
        for text, rooms, plan in random_plans(300, 40):
            layout = read_layout(text)
            left = joined(layout, plan, rooms)
            states = states_of(layout, left, rooms)
            self.assertEqual(states[-1], states_of(layout, plan, rooms)[-1])
            self.assertLessEqual(cells_moved(layout, left, rooms), cells_moved(layout, plan, rooms))
            self.assertTrue(all(one[0] != other[0] for one, other in itertools.pairwise(left)))
            self.assertTrue(all(one != other for one, other in itertools.pairwise(states)))
            self.assertEqual(left, joined_another_way(moves_told(text, plan)))
            self.assertEqual(joined(layout, left, rooms), left)


class Reversed(unittest.TestCase):
    def test_example(self):
        plan = [("c", 14), ("b", 11), ("c", 8)]
        behind, back = reversed_plan(read_layout(EXAMPLE), plan, [2])
        self.assertEqual((write_layout(behind), back), ("16 a@0+8 c@8+2 b@11+3", (("c", 14), ("b", 8), ("c", 11))))
        behind, back = reversed_plan(behind, back, [2])
        self.assertEqual((write_layout(behind), back), (EXAMPLE, tuple(plan)))

    def test_steps_to_where_the_block_is_and_rooms(self):
        plan = [["a", 0], ["c", ["room", 1]], ["c", ["room", 0]], ["b", 9], ["b", 9], ["c", 14]]
        behind, back = reversed_plan(read_layout(EXAMPLE), plan, [2, 3])
        self.assertEqual(write_layout(behind), "16 a@0+8 b@9+3 c@14+2")
        self.assertEqual(back, (("c", room(0)), ("b", 9), ("b", 8), ("c", room(1)), ("c", 11), ("a", 0)))

    def test_without_steps(self):
        self.assertEqual(plain(reversed_plan(read_layout(EXAMPLE), [], ())), (EXAMPLE, ()))
        self.assertEqual(plain(reversed_plan(read_layout("0"), [], [5])), ("0", ()))

    def test_left_aside(self):
        layout = read_layout("16 c@0+8 a@8+3 b@11+2")
        for plan, names in (
            ([("b", room(0))], ("b",)),
            ([("b", room(0)), ("c", room(1)), ("b", room(1))], ("c", "b")),
            ([("b", room(1)), ("a", room(0)), ("c", room(1))], ("c", "a", "b")),
            ([("b", room(0)), ("a", room(0)), ("b", 14)], ("a",)),
        ):
            self.assertEqual(told(reversed_plan, layout, plan, [5, 10]), ("LeftAside", {"names": names}))
            self.assertIsInstance(told(reversed_plan, layout, plan, [5, 10])[1]["names"], tuple)
            wrong = [*plan, ("z", 0)]
            self.assertEqual(told(reversed_plan, layout, wrong, [5, 10]), not_possible(len(plan), "no block"))

    def test_what_is_promised_of_it(self):
        tried = 0
        for text, rooms, plan in random_plans(400, 25):
            layout = read_layout(text)
            end, names, _ = checked(layout, plan, rooms)
            if any(names):
                aside = tuple(name for name in layout.order if name not in end.order)
                self.assertEqual(told(reversed_plan, layout, plan, rooms), ("LeftAside", {"names": aside}))
                continue
            tried += 1
            behind, back = reversed_plan(layout, plan, rooms)
            self.assertEqual(write_layout(behind), write_layout(end))
            # Each state on the way back is one on the way there, the last one first.
            there = [dict(state) for state in states_of(layout, plan, rooms)]
            self.assertEqual([dict(state) for state in states_of(behind, back, rooms)], there[::-1])
            self.assertEqual(plain(reversed_plan(behind, back, rooms)), (text, plan))
        self.assertGreater(tried, 100)


class AllShortPlans(unittest.TestCase):
    """Every plan of up to two steps, possible or not, against the cells of the blocks."""

    def check(self, text, rooms, plan):
        follower = Follower(text, rooms)
        states, moved, fault = [tuple(follower.places.items())], 0, None
        for number, (name, place) in enumerate(plan):
            reason = follower.fault(name, place)
            if reason is not None:
                fault = (number, reason)
                break
            moved += follower.sizes[name] if follower.places[name] != place else 0
            follower.put(name, place)
            states.append(tuple(follower.places.items()))
        layout = read_layout(text)
        self.assertEqual(look(text, plan, rooms), (follower.text(), follower.rooms_told(), fault))
        self.assertEqual(told(states_of, layout, plan, rooms), not_possible(*fault) if fault else tuple(states))
        self.assertEqual(told(cells_moved, layout, plan, rooms), not_possible(*fault) if fault else moved)

    def test_all(self):
        for text, rooms in (("5 k@1+2 m@3+1", (2,)), ("4 b@0+1 a@1+2", (1, 3)), ("3 a@0+3", ()), ("4 k@1+1", (0, 1))):
            layout = read_layout(text)
            places = [*range(-1, layout.capacity + 1), *(room(number) for number in range(-1, len(rooms) + 1))]
            steps = [*itertools.product(layout.order, places), ("z", 0), ("z", room(0))]
            for count in range(3):
                for plan in itertools.product(steps, repeat=count):
                    self.check(text, rooms, plan)


if __name__ == "__main__":
    unittest.main()
