"""Plans: rows of steps that move the blocks of a layout, within it or into rooms and back.

A move is a step that was possible: the triple of a name, the place of its block ahead of the
step, and the place behind it.
"""

from letpast.errors import LetError
from letpast.layouts import Layout, overlap_fault
from letpast.rooms import settled_rooms

MOST_STEPS = 4000
ROOM = "room"


class BadPlan(LetError):
    """No plan: the index of the first element that is no step, or None if there are too many."""

    def __init__(self, number):
        self.number = number


class NotPossible(LetError):
    """A step is not possible: its index, and why."""

    def __init__(self, number, reason):
        self.number = number
        self.reason = reason


class LeftAside(LetError):
    """Blocks are left in rooms: their names."""

    def __init__(self, names):
        self.names = names


def is_whole(value):
    """Whether a value is a whole number."""
    return isinstance(value, int) and not isinstance(value, bool)


def is_pair(value):
    """Whether a value is a list or tuple of two elements."""
    return isinstance(value, (list, tuple)) and len(value) == 2


def is_place(value):
    """Whether a value has the form of a start or of a room."""
    if is_pair(value):
        return value[0] == ROOM and is_whole(value[1])
    return is_whole(value)


def is_step(value):
    """Whether a value has the form of a step."""
    return is_pair(value) and isinstance(value[0], str) and is_place(value[1])


def settled_place(place):
    """A place, as a whole number or a tuple."""
    return place if is_whole(place) else tuple(place)


def settled_plan(plan):
    """The steps of a plan as tuples, in a tuple."""
    if len(plan) > MOST_STEPS:
        raise BadPlan(None)
    for number, step in enumerate(plan):
        if not is_step(step):
            raise BadPlan(number)
    return tuple([(name, settled_place(place)) for name, place in plan])


def first_places(layout):
    """A dict of the places of all blocks at first, in the order of the layout."""
    return {name: start for name, start, _ in layout.blocks}


def lying_blocks(layout, places):
    """The blocks that lie in the layout, and in no room, when all are at some places."""
    return [(name, places[name], size) for name, _, size in layout.blocks if is_whole(places[name])]


def layout_at(layout, places):
    """The Layout of the blocks that lie in it when all are at some places."""
    return Layout(layout.capacity, lying_blocks(layout, places))


def names_in_room(places, number):
    """The names of the blocks in a room, in the order of the layout."""
    return tuple([name for name in places if places[name] == (ROOM, number)])


def names_in_rooms(places, rooms):
    """For each room the names of the blocks in it."""
    return tuple([names_in_room(places, number) for number in range(len(rooms))])


def names_aside(places):
    """The names of all blocks that lie in rooms, in the order of the layout."""
    return tuple([name for name in places if not is_whole(places[name])])


def room_fault(layout, rooms, places, name, number):
    """Why a block cannot come into a room: the first reason, or None."""
    if not 0 <= number < len(rooms):
        return "no room"
    if places[name] == (ROOM, number):
        return "there already"
    together = [*names_in_room(places, number), name]
    if sum([layout.size_of(other) for other in together]) > rooms[number]:
        return "full"
    return None


def start_fault(layout, places, name, start):
    """Why a block cannot come to a start: the first reason, or None."""
    size = layout.size_of(name)
    if start < 0 or start + size > layout.capacity:
        return "beyond"
    others = [block for block in lying_blocks(layout, places) if block[0] != name]
    return overlap_fault((name, start, size), others)


def step_fault(layout, rooms, places, step):
    """Why a step is not possible when the blocks are at some places: the first reason, or None."""
    name, place = step
    if name not in places:
        return "no block"
    if is_whole(place):
        return start_fault(layout, places, name, place)
    return room_fault(layout, rooms, places, name, place[1])


def followed(layout, steps, rooms):
    """The moves up to the first step that is not possible, and None or (its index, the reason).

    The steps and the rooms are settled ones.
    """
    places = first_places(layout)
    moves = []
    for number, step in enumerate(steps):
        reason = step_fault(layout, rooms, places, step)
        if reason is not None:
            return moves, (number, reason)
        name, place = step
        moves.append((name, places[name], place))
        places[name] = place
    return moves, None


def possible_moves(layout, steps, rooms):
    """The moves of all steps, settled ones, with settled rooms; raises NotPossible."""
    moves, fault = followed(layout, steps, rooms)
    if fault is not None:
        number, reason = fault
        raise NotPossible(number, reason)
    return moves


def moves_of(layout, plan, rooms):
    """The moves of a plan; raises BadPlan, BadRooms, then NotPossible."""
    steps = settled_plan(plan)
    return possible_moves(layout, steps, settled_rooms(rooms))


def places_behind(layout, moves):
    """A dict of the places of all blocks behind some moves, in the order of the layout."""
    places = first_places(layout)
    for name, _, behind in moves:
        places[name] = behind
    return places


def layout_behind(layout, moves):
    """The Layout to which moves lead that leave the rooms empty; raises LeftAside."""
    places = places_behind(layout, moves)
    names = names_aside(places)
    if names:
        raise LeftAside(names)
    return layout_at(layout, places)


def checked(layout, plan, rooms):
    """How far a plan is possible: the Layout and the names in the rooms there, and what stopped it."""
    steps = settled_plan(plan)
    settled = settled_rooms(rooms)
    moves, fault = followed(layout, steps, settled)
    places = places_behind(layout, moves)
    return layout_at(layout, places), names_in_rooms(places, settled), fault


def states_of(layout, plan, rooms):
    """Where the blocks are ahead of the first step and behind each: tuples of pairs (name, place)."""
    moves = moves_of(layout, plan, rooms)
    places = first_places(layout)
    states = [tuple(places.items())]
    for name, _, behind in moves:
        places[name] = behind
        states.append(tuple(places.items()))
    return tuple(states)


def cells_moved(layout, plan, rooms):
    """How many cells are moved by the steps that change the place of their block."""
    moves = moves_of(layout, plan, rooms)
    return sum([layout.size_of(name) for name, ahead, behind in moves if ahead != behind])


def joined(layout, plan, rooms):
    """The plan that is left if neighbouring steps of the same block become one."""
    left = []
    for name, ahead, behind in moves_of(layout, plan, rooms):
        origin = ahead
        if left and left[-1][0] == name:
            _, origin, _ = left.pop()
        if origin != behind:
            left.append((name, origin, behind))
    return tuple([(name, behind) for name, _, behind in left])


def reversed_plan(layout, plan, rooms):
    """The Layout to which a plan leads, and the plan that leads back from it."""
    moves = moves_of(layout, plan, rooms)
    back = [(name, ahead) for name, ahead, _ in reversed(moves)]
    return layout_behind(layout, moves), tuple(back)
