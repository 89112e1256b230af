"""Packing: which sizes can lie in some rooms at one time.

A set of sizes is told as a whole number: its bit with an index stands for the size with this
index. So a list with an item for each set has it at the index that is the set. A family of sets is
told as a whole number, too: its bit with an index stands for the set that is this index. So one
shift of such a number adds a size to all sets of a family at once.
"""

from letpast.errors import LetError
from letpast.layouts import MOST_BLOCKS, MOST_SIZE
from letpast.rooms import settled_rooms


class BadSizes(LetError):
    """No row of sizes: the index of the first wrong one, or None if there are too many."""

    def __init__(self, place):
        self.place = place


def check_sizes(sizes):
    """Raise BadSizes for what is wrong first."""
    if len(sizes) > MOST_BLOCKS:
        raise BadSizes(None)
    for place, size in enumerate(sizes):
        if not 1 <= size <= MOST_SIZE:
            raise BadSizes(place)


def cells_of_sets(sizes):
    """For each set of sizes the cells that they have together, in a list."""
    cells = [0]
    for size in sizes:
        cells = [*cells, *[others + size for others in cells]]
    return cells


def indices_in(chosen):
    """The indices of the sizes in a set, or of the sets in a family, from the least one on."""
    signs = f"{chosen:b}"
    return [index for index, sign in enumerate(signs[::-1]) if sign == "1"]


def families_without(count):
    """For each of so many sizes the family of all sets that it is not in."""
    every = (1 << (1 << count)) - 1
    # Such a family, and itself shifted by the bit of the size, are together the family of all sets.
    return [every // ((1 << (1 << index)) + 1) for index in range(count)]


def with_parts(family, without):
    """A family, and with it all parts of its sets."""
    for index, others in enumerate(without):
        family |= (family >> (1 << index)) & others
    return family


def with_room(family, sizes, room, without):
    """The family of the sets that can be packed with one room more."""
    # A fill of the room is its cells, and the family of the sets that its sizes make with those of
    # the given family that have none of them.
    fills = [(0, family)]
    left = sum(sizes)
    greatest_first = sorted([(size, index) for index, size in enumerate(sizes)], reverse=True)
    for size, index in greatest_first:
        others = without[index]
        longer = [(cells + size, (sets & others) << (1 << index)) for cells, sets in fills if cells + size <= room]
        # Where this size and all behind it fit, a fill without it would be a part of one with it.
        fills = [*longer, *[fill for fill in fills if fill[0] + left > room]]
        left -= size
    packable = 0
    for _, sets in fills:
        packable |= sets
    return with_parts(packable, without)


def packable_sets(sizes, rooms):
    """The family of the sets of sizes that can be packed."""
    without = families_without(len(sizes))
    family = 1
    for room in rooms:
        family = with_room(family, sizes, room, without)
    return family


def most_of_sets(sizes, rooms):
    """For each set of sizes the most cells that some of them have that can be packed, in a list."""
    cells = cells_of_sets(sizes)
    most = [0] * len(cells)
    for chosen in indices_in(packable_sets(sizes, rooms)):
        most[chosen] = cells[chosen]
    for chosen, held in enumerate(cells):
        if most[chosen] < held:
            most[chosen] = max([most[chosen ^ (1 << index)] for index in indices_in(chosen)])
    return most


def fit_in_turn(sizes, rooms):
    """Whether all sizes fit, the greatest one first, each in the first room that takes it by then."""
    left = list(rooms)
    for size in sorted(sizes, reverse=True):
        wide = [number for number, cells in enumerate(left) if size <= cells]
        if not wide:
            return False
        left[wide[0]] -= size
    return True


def most_packed(sizes, rooms):
    """The most cells that some of the sizes have together that can be packed."""
    widest = max([0, *rooms])
    fitting = [size for size in sizes if size <= widest]
    # To look at all sets takes long; where all sizes fit with ease, or none does, there is no need.
    if fit_in_turn(fitting, rooms):
        return sum(fitting)
    cells = cells_of_sets(fitting)
    return max([cells[chosen] for chosen in indices_in(packable_sets(fitting, rooms))])


def first_room(size, later, rooms, wanted):
    """The first room for a size, so that it and later ones can have the wanted cells; or None."""
    for number, cells in enumerate(rooms):
        if size <= cells:
            left = [*rooms[:number], cells - size, *rooms[number + 1:]]
            if size + most_packed(later, left) == wanted:
                return number
    return None


def packed(sizes, rooms):
    """The most cells that can be packed, and the first packing with so many."""
    check_sizes(sizes)
    left = list(settled_rooms(rooms))
    most = most_packed(sizes, left)
    wanted = most
    packing = []
    for place, size in enumerate(sizes):
        number = first_room(size, sizes[place + 1:], left, wanted)
        if number is not None:
            left[number] -= size
            wanted -= size
        packing.append(number)
    return most, tuple(packing)
