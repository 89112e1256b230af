"""Yards: blocks that are put, taken away, moved and brought into orders, with undo."""

from letpast.crossings import order_plan
from letpast.errors import LetError
from letpast.gaps import gap_plan
from letpast.layouts import MOST_BLOCKS, MOST_SIZE, Layout, is_name
from letpast.orders import settled_order
from letpast.plans import layout_behind, possible_moves
from letpast.rooms import settled_rooms

PUT = "put"
TAKE_AWAY = "take away"
MOVE = "move"
REORDER = "reorder"


class BadPut(LetError):
    """A block cannot be put: why."""

    def __init__(self, reason):
        self.reason = reason


class NotReached(LetError):
    """The blocks cannot be brought into this order."""


class NothingToUndo(LetError):
    """There is no event that was not undone."""


class BadEvent(LetError):
    """An event cannot be done: its index."""

    def __init__(self, number):
        self.number = number


def put_fault(layout, name, size):
    """Why a block cannot be put: the first reason, or None."""
    if not is_name(name):
        return "name"
    if not 1 <= size <= MOST_SIZE:
        return "size"
    if name in layout.order:
        return "taken"
    if len(layout.blocks) == MOST_BLOCKS:
        return "many"
    if layout.free < size:
        return "full"
    return None


class Yard:
    """Blocks in a row of cells beside rooms, and the events that brought them where they lie."""

    def __init__(self, capacity, rooms):
        self._rooms = settled_rooms(rooms)
        self._layout = Layout(capacity, ())
        self._toll = 0
        # For each event that was not undone: the event, and the layout and the toll ahead of it.
        self._past = []

    def layout(self):
        """The blocks where they lie, a Layout."""
        return self._layout

    def rooms(self):
        """The cells of the rooms."""
        return self._rooms

    def toll(self):
        """How many cells were moved in all."""
        return self._toll

    def journal(self):
        """The events that were not undone."""
        return tuple([event for event, _, _ in self._past])

    def put(self, name, size):
        """Put a block; its start."""
        reason = put_fault(self._layout, name, size)
        if reason is not None:
            raise BadPut(reason)
        start, moved, plan = gap_plan(self._layout, size)
        ready = layout_behind(self._layout, possible_moves(self._layout, plan, ()))
        behind = Layout(ready.capacity, [*ready.blocks, (name, start, size)])
        self._pass_on((PUT, name, size), behind, moved)
        return start

    def take_away(self, name):
        """Take a block away; its size."""
        size = self._layout.size_of(name)
        blocks = [block for block in self._layout.blocks if block[0] != name]
        self._pass_on((TAKE_AWAY, name), Layout(self._layout.capacity, blocks), 0)
        return size

    def move(self, name, start):
        """Move a block; the start that it had."""
        ahead = self._layout.start_of(name)
        moves = possible_moves(self._layout, ((name, start),), ())
        behind = layout_behind(self._layout, moves)
        self._pass_on((MOVE, name, start), behind, behind.size_of(name))
        return ahead

    def reorder(self, order):
        """Bring the blocks into an order; how many cells were moved."""
        names = settled_order(self._layout, order)
        plan = order_plan(self._layout, names, self._rooms)
        if plan is None:
            raise NotReached("the blocks cannot be brought into this order")
        moved = sum([self._layout.size_of(name) for name, _ in plan])
        behind = layout_behind(self._layout, possible_moves(self._layout, plan, self._rooms))
        self._pass_on((REORDER, names), behind, moved)
        return moved

    def undo(self):
        """Undo the last event that was not undone; this event."""
        if not self._past:
            raise NothingToUndo("there is no event that was not undone")
        event, self._layout, self._toll = self._past.pop()
        return event

    def _pass_on(self, event, behind, moved):
        """Keep an event, the layout behind it, and how many cells it moved."""
        self._past.append((event, self._layout, self._toll))
        self._layout = behind
        self._toll += moved


def do_event(yard, event):
    """Do an event of one of the forms that a journal has."""
    word = event[0]
    if word == PUT:
        yard.put(event[1], event[2])
    elif word == TAKE_AWAY:
        yard.take_away(event[1])
    elif word == MOVE:
        yard.move(event[1], event[2])
    else:
        yard.reorder(event[1])


def replayed(capacity, rooms, events):
    """A yard in which some events were done."""
    yard = Yard(capacity, rooms)
    for number, event in enumerate(events):
        try:
            do_event(yard, event)
        except LetError:
            raise BadEvent(number) from None
    return yard
