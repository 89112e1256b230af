"""Orders: which ones a layout can come to, how many, with which indices, and with how much room.

Blocks that are greater than the threshold are called great here: they keep their order.
"""

from math import perm

from letpast.errors import LetError
from letpast.packing import cells_of_sets, indices_in, most_of_sets, most_packed
from letpast.rooms import settled_rooms
from letpast.slides import check_target


class BadOrder(LetError):
    """No order: the number of the first wrong name (or None), and why."""

    def __init__(self, number, reason):
        self.number = number
        self.reason = reason


class NoOrder(LetError):
    """No order has this index."""


def settled_order(layout, order):
    """The names of an order, as a tuple."""
    for number, name in enumerate(order):
        if name not in layout.order:
            raise BadOrder(number, "block")
        if name in order[:number]:
            raise BadOrder(number, "twice")
    if len(order) != len(layout.order):
        raise BadOrder(None, "length")
    return tuple(order)


def sizes_of(layout):
    """The sizes of the blocks, by their starts."""
    return [size for _, _, size in layout.blocks]


def threshold(layout, rooms):
    """The free cells, and the most cells that some of the blocks have together in the rooms."""
    return layout.free + most_packed(sizes_of(layout), settled_rooms(rooms))


def greater_names(layout, limit):
    """The names of the blocks that are greater than a limit, in the order of the layout."""
    return [name for name, _, size in layout.blocks if size > limit]


def great_names(layout, rooms):
    """The names of the great blocks, in the order of the layout; raises BadRooms."""
    return greater_names(layout, threshold(layout, rooms))


def reversed_pairs(names, order):
    """The pairs of some names that an order reverses, in the sequence of the names."""
    pairs = []
    for number, one in enumerate(names):
        for other in names[number + 1:]:
            if order.index(other) < order.index(one):
                pairs.append((one, other))
    return pairs


def first_blocking_pair(layout, order, rooms):
    """The first reversed pair of great blocks, or None; the order is a settled one."""
    pairs = reversed_pairs(great_names(layout, rooms), order)
    return pairs[0] if pairs else None


def blocking_pair(layout, order, rooms):
    """None if a layout can come to an order, otherwise the first two great blocks that it reverses."""
    return first_blocking_pair(layout, settled_order(layout, order), rooms)


def can_come_to(layout, target, rooms):
    """Whether a layout can come to another layout of the same blocks."""
    check_target(layout, target)
    return first_blocking_pair(layout, target.order, rooms) is None


# An order that a layout can come to is told name by name: of those that are left, each that is
# not great can come next, and of the great ones the first.

def next_names(left, great):
    """The names that can come next, when some are left in the order of the layout."""
    waiting = [name for name in left if name in great]
    return [name for name in left if name not in waiting[1:]]


def count_of(left, great):
    """How many orders of the names that are left the layout can come to."""
    waiting = [name for name in left if name in great]
    return perm(len(left), len(left) - len(waiting))


def count_behind(left, great, name):
    """How many orders of the names that are left begin with one that can come next."""
    return count_of([other for other in left if other != name], great)


def order_count(layout, rooms):
    """How many orders a layout can come to."""
    return count_of(layout.order, great_names(layout, rooms))


def order_at(layout, rooms, index):
    """The order with an index."""
    great = great_names(layout, rooms)
    left = list(layout.order)
    if not 0 <= index < count_of(left, great):
        raise NoOrder("no order has this index")
    names = []
    while left:
        ready = next_names(left, great)
        while index >= count_behind(left, great, ready[0]):
            index -= count_behind(left, great, ready[0])
            ready = ready[1:]
        names.append(ready[0])
        left.remove(ready[0])
    return tuple(names)


def order_index(layout, order, rooms):
    """The index of an order, or None if the layout cannot come to it."""
    names = settled_order(layout, order)
    great = great_names(layout, rooms)
    left = list(layout.order)
    index = 0
    for name in names:
        ready = next_names(left, great)
        if name not in ready:
            return None
        for earlier in ready[:ready.index(name)]:
            index += count_behind(left, great, earlier)
        left.remove(name)
    return index


def needed_for(layout, order):
    """The greatest size of the smaller block of a pair that an order reverses, or 0."""
    needed = 0
    for one, other in reversed_pairs(layout.order, order):
        needed = max(needed, min(layout.size_of(one), layout.size_of(other)))
    return needed


def least_aside(sizes, rooms, wanted):
    """The least cells of a set of sizes that is set aside, and the indices of the first such set.

    Its cells, and the most cells of the others that can be packed, are together as many as wanted.
    """
    cells = cells_of_sets(sizes)
    most = most_of_sets(sizes, rooms)
    everything = len(cells) - 1
    enough = [chosen for chosen in range(len(cells)) if cells[chosen] + most[everything ^ chosen] >= wanted]
    return min([(cells[chosen], indices_in(chosen)) for chosen in enough])


def least_room(layout, order, rooms):
    """What an order needs, the least cells of one more room that are enough, and what lies in it."""
    names = settled_order(layout, order)
    settled = settled_rooms(rooms)
    needed = needed_for(layout, names)
    # With nothing more needed no block has to be set aside: the least set is the one without any.
    room, aside = least_aside(sizes_of(layout), settled, needed - layout.free)
    if room >= needed:
        aside = []
    return needed, room, tuple([layout.order[index] for index in aside])
