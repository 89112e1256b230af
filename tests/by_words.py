"""Second ways to answer, slow ones, as near to the words of DOC.md as can be; only layouts are taken from the package."""

import functools
import itertools

from tests.support import Follower, room


def packings(sizes, rooms):
    """All packings, as [E1] tells them."""
    for packing in itertools.product([*range(len(rooms)), None], repeat=len(sizes)):
        held = [sum(size for size, at in zip(sizes, packing) if at == number) for number in range(len(rooms))]
        if all(cells <= most for cells, most in zip(held, rooms)):
            yield packing


def packed_by_words(sizes, rooms):
    """The most cells, and the first packing with so many: None is behind all numbers."""
    def key(packing):
        cells = sum(size for size, at in zip(sizes, packing) if at is not None)
        return -cells, [len(rooms) if at is None else at for at in packing]
    cells, first = min(key(packing) for packing in packings(sizes, rooms))
    return -cells, tuple(None if at == len(rooms) else at for at in first)


def packed_size_by_size(sizes, rooms):
    """The same, size by size, with what is known of the sizes behind and of the cells that are left; for small rooms."""
    @functools.cache
    def best(index, left):
        if index == len(sizes):
            return 0, ()
        found = []
        for number, cells in enumerate(left):
            if sizes[index] <= cells:
                most, packing = best(index + 1, (*left[:number], cells - sizes[index], *left[number + 1:]))
                found.append((most + sizes[index], (number, *packing)))
        most, packing = best(index + 1, left)
        found.append((most, (None, *packing)))
        return max(found, key=lambda pair: pair[0])
    return best(0, tuple(rooms))


def most_set_by_set(sizes, rooms):
    """The most cells that can be packed, for up to twelve sizes, however great.

    Each set is packed into the rooms one after the other, from its parts with one size less: the last room that is used
    is the first one that can be, with the fewest cells.
    """
    fills, most = [(0, 0)], 0
    for chosen in range(1, 2 ** len(sizes)):
        inside = [index for index in range(len(sizes)) if chosen >> index & 1]
        found = []
        for index in inside:
            part = fills[chosen - 2 ** index]
            for number in range(part[0], len(rooms)) if part else ():
                held = sizes[index] + (part[1] if number == part[0] else 0)
                if held <= rooms[number]:
                    found.append((number, held))
        fills.append(min(found, default=None))
        if found:
            most = max(most, sum(sizes[index] for index in inside))
    return most


def threshold_by_words(layout, rooms):
    sizes = [size for _, _, size in layout.blocks]
    return layout.capacity - sum(sizes) + packed_by_words(sizes, rooms)[0]


def alike(names, order):
    """Whether some names, in the order of the layout, stand in the same sequence in an order."""
    return [name for name in order if name in names] == list(names)


def blocking_pair_above(limit, layout, order):
    """The first pair of blocks that are greater than a limit and that an order reverses, or None."""
    for one, other in itertools.combinations(layout.order, 2):
        if min(layout.size_of(one), layout.size_of(other)) > limit and not alike((one, other), order):
            return one, other
    return None


def blocking_pair_by_words(layout, order, rooms):
    return blocking_pair_above(threshold_by_words(layout, rooms), layout, order)


def orders_keeping(great, names, turned=False):
    """All orders in which some names keep the order that they have in names, one by one; turned: the last one first."""
    waiting = [name for name in names if name in great]
    for name in reversed(names) if turned else names:
        if name not in waiting[1:]:
            for rest in orders_keeping(great, [other for other in names if other != name], turned):
                yield (name, *rest)
    if not names:
        yield ()


def orders_by_words(layout, rooms):
    """All orders that the layout can come to, by [E3], compared as [E4] says."""
    orders = itertools.permutations(layout.order)
    return [order for order in orders if blocking_pair_by_words(layout, order, rooms) is None]


def subsets(names):
    """All sets of names, as tuples; of those with as many names the first one first."""
    for count in range(len(names) + 1):
        yield from itertools.combinations(names, count)


def needed_by_words(layout, order):
    pairs = [pair for pair in itertools.combinations(layout.order, 2) if not alike(pair, order)]
    return max([min(layout.size_of(one), layout.size_of(other)) for one, other in pairs], default=0)


def least_room_by_words(layout, order, rooms):
    """[E5], with every set A of blocks."""
    needed = needed_by_words(layout, order)
    if needed <= threshold_by_words(layout, rooms):
        return needed, 0, ()
    found = []
    for chosen in subsets(layout.order):
        aside = sum(layout.size_of(name) for name in chosen)
        others = [size for name, _, size in layout.blocks if name not in chosen]
        if layout.free + aside + packed_by_words(others, rooms)[0] >= needed:
            found.append((aside, [layout.order.index(name) for name in chosen], chosen))
    aside, _, chosen = min(found)
    return needed, aside, chosen if aside < needed else ()


def staying_by_words(layout, order, must, weights):
    """The first one of the sets with the greatest weights that stand alike and have all that must; or None."""
    weight = dict(zip(layout.order, weights))
    found = []
    for chosen in subsets(layout.order):
        if alike(chosen, order) and set(must) <= set(chosen):
            total = sum(weight[name] for name in chosen)
            found.append((-total, [layout.order.index(name) for name in chosen], chosen))
    return min(found)[2] if found else None


class Carrying:
    """[F3] to [F5], step by step; each step is looked at by a Follower."""

    def __init__(self, text, order, rooms):
        self.follower = Follower(text, rooms)
        self.order = tuple(order)
        self.names = self.follower.layout.order
        self.sizes = self.follower.sizes
        self.rooms = rooms
        self.free = self.follower.layout.capacity - sum(self.sizes.values())
        self.plan = []

    def step(self, name, place):
        if self.follower.places[name] == place:
            return
        if self.follower.fault(name, place) is not None:
            raise AssertionError(f"{name} cannot come to {place}")
        self.follower.put(name, place)
        self.plan.append((name, place))

    def row(self):
        return sorted(self.follower.lying(), key=self.follower.places.get)

    def end(self, name):
        return self.follower.places[name] + self.sizes[name]

    def gather(self, count):
        row = self.row()
        for number, name in enumerate(row[:count]):
            self.step(name, self.end(row[number - 1]) if number else 0)
        for number in range(len(row) - 1, count - 1, -1):
            last = number == len(row) - 1
            behind = self.follower.layout.capacity if last else self.follower.places[row[number + 1]]
            self.step(row[number], behind - self.sizes[row[number]])

    def put(self, name, wanted):
        row = self.row()
        ahead = [other for other in wanted[:wanted.index(name)] if other in row]
        if not ahead:
            self.gather(0)
            self.step(name, 0)
            return
        self.gather(row.index(ahead[-1]) + 1)
        self.step(name, self.end(ahead[-1]))

    def carry(self, name):
        wanted = [other for other in self.row() if other != name]
        at = self.order.index(name)
        wanted.insert(wanted.index(self.order[at - 1]) + 1 if at else 0, name)
        size = self.sizes[name]
        fitting = [number for number, cells in enumerate(self.rooms) if size <= cells]
        aside = []
        if size > self.free and fitting:
            self.step(name, room(fitting[0]))
        elif size > self.free:
            others = [other for other in self.names if other != name]
            _, packing = packed_by_words([self.sizes[other] for other in others], self.rooms)
            for other, number in zip(others, packing):
                if number is not None:
                    self.step(other, room(number))
                    aside.append(other)
        self.put(name, wanted)
        for other in sorted(aside, key=wanted.index):
            self.put(other, wanted)


def order_plan_by_words(layout, text, order, rooms):
    carrying = Carrying(text, order, rooms)
    limit = threshold_by_words(layout, rooms)
    must = [name for name, _, size in layout.blocks if size > limit]
    stay = staying_by_words(layout, carrying.order, must, [1] * len(layout.blocks))
    if stay is None:
        return None
    for name in carrying.order:
        if name not in stay:
            carrying.carry(name)
    return tuple(carrying.plan)
