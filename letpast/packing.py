"""Packing: which sizes can lie in some rooms at one time.

A set of sizes is told as a whole number: its bit with an index stands for the size with this
index. So a list with an item for each set has it at the index that is the set.
"""

from letpast.errors import LetError
from letpast.layouts import MOST_BLOCKS, MOST_SIZE
from letpast.rooms import settled_rooms


class BadSizes(LetError):
    """No row of sizes: the index of the first wrong one, or None if there are too many."""

    def __init__(self, place):
        self.place = place


def check_sizes(sizes):
    """Raise BadSizes for what is wrong first."""
    if len(sizes) > MOST_BLOCKS:
        raise BadSizes(None)
    for place, size in enumerate(sizes):
        if not 1 <= size <= MOST_SIZE:
            raise BadSizes(place)


def cells_of_sets(sizes):
    """For each set of sizes the cells that they have together, in a list."""
    cells = [0]
    for size in sizes:
        cells = [*cells, *[others + size for others in cells]]
    return cells


def indices_in(chosen):
    """The indices of the sizes in a set, from the least one on."""
    return [index for index in range(chosen.bit_length()) if (chosen >> index) & 1]


# Rooms are filled one after the other. A fill is the pair of the last room that is used and how
# many of its cells are. The lesser fill leaves more: for the sizes still to come it is the better.

def fill_with(fill, size, rooms):
    """The fill behind one size more, in the first room that takes it; or None."""
    number, cells = fill
    for at in range(number, len(rooms)):
        if cells + size <= rooms[at]:
            return at, cells + size
        cells = 0
    return None


def least_fill(fills, chosen, sizes, rooms):
    """The least fill of a set, from the least fills of its parts; None if it cannot be packed."""
    least = None
    for index in indices_in(chosen):
        part = fills[chosen ^ (1 << index)]
        # What cannot be packed in part cannot be packed.
        if part is None:
            return None
        fill = fill_with(part, sizes[index], rooms)
        if fill is not None and (least is None or fill < least):
            least = fill
    return least


def least_fills(sizes, rooms):
    """For each set of sizes its least fill, or None if it cannot be packed, in a list."""
    fills = [(0, 0)]
    for chosen in range(1, 1 << len(sizes)):
        fills.append(least_fill(fills, chosen, sizes, rooms))
    return fills


def most_of_sets(sizes, rooms):
    """For each set of sizes the most cells that some of them have that can be packed, in a list."""
    cells = cells_of_sets(sizes)
    most = []
    for chosen, fill in enumerate(least_fills(sizes, rooms)):
        if fill is None:
            most.append(max([most[chosen ^ (1 << index)] for index in indices_in(chosen)]))
        else:
            most.append(cells[chosen])
    return most


def most_packed(sizes, rooms):
    """The most cells that some of the sizes have together that can be packed."""
    return most_of_sets(sizes, rooms)[-1]


def first_room(size, later, rooms, wanted):
    """The first room for a size, so that it and later ones can have the wanted cells; or None."""
    for number, cells in enumerate(rooms):
        if size <= cells:
            left = [*rooms[:number], cells - size, *rooms[number + 1:]]
            if size + most_packed(later, left) == wanted:
                return number
    return None


def packed(sizes, rooms):
    """The most cells that can be packed, and the first packing with so many."""
    check_sizes(sizes)
    left = list(settled_rooms(rooms))
    most = most_packed(sizes, left)
    wanted = most
    packing = []
    for place, size in enumerate(sizes):
        number = first_room(size, sizes[place + 1:], left, wanted)
        if number is not None:
            left[number] -= size
            wanted -= size
        packing.append(number)
    return most, tuple(packing)
