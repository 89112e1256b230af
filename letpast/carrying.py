"""Carrying: how blocks are brought over others, one after the other, by way of rooms."""

from letpast.plans import ROOM, first_places, is_whole, lying_blocks


class Carrier:
    """Carries blocks of a layout: where all of them are by now, and the steps so far.

    packing tells for each block of the layout, by their starts, its room in the first packing with
    the most cells, or None.
    """

    def __init__(self, layout, rooms, packing):
        self._layout = layout
        self._rooms = rooms
        self._packing = packing
        self._places = first_places(layout)
        self.steps = []

    def carry(self, name, front):
        """Carry a block to directly behind another one, or for None to the front; the rooms are empty."""
        wanted = self._wanted(name, front)
        for other, number in self._moved_aside(name):
            self._bring(other, (ROOM, number))
        self._put(name, wanted)
        for other in wanted:
            if not is_whole(self._places[other]):
                self._put(other, wanted)

    def _lying(self):
        """The names of the blocks that lie in the layout, by their starts."""
        blocks = lying_blocks(self._layout, self._places)
        pairs = sorted([(start, name) for name, start, _ in blocks])
        return [name for _, name in pairs]

    def _wanted(self, name, front):
        """All names in the sequence in which a block comes directly behind another one, or to the front."""
        names = [other for other in self._lying() if other != name]
        at = 0 if front is None else names.index(front) + 1
        return [*names[:at], name, *names[at:]]

    def _moved_aside(self, name):
        """The pairs (name, room) of the blocks that go into rooms ahead of the putting of a block."""
        size = self._layout.size_of(name)
        if size <= self._layout.free:
            return []
        for number, cells in enumerate(self._rooms):
            if size <= cells:
                return [(name, number)]
        # No room takes the block itself, so the packing of all blocks is that of all others.
        return [(other, number) for other, number in zip(self._layout.order, self._packing) if number is not None]

    def _bring(self, name, place):
        """Bring a block to a place, by a step unless it is there."""
        if self._places[name] != place:
            self._places[name] = place
            self.steps.append((name, place))

    def _gather(self, names, count):
        """Gather the first ones of the names that lie in the layout; the end of the last one of these."""
        end = 0
        for name in names[:count]:
            self._bring(name, end)
            end += self._layout.size_of(name)
        start = self._layout.capacity
        for name in reversed(names[count:]):
            start -= self._layout.size_of(name)
            self._bring(name, start)
        return end

    def _put(self, name, wanted):
        """Move a block behind those that are ahead of it in the wanted sequence."""
        lying = self._lying()
        front = [other for other in wanted[:wanted.index(name)] if other in lying]
        count = lying.index(front[-1]) + 1 if front else 0
        self._bring(name, self._gather(lying, count))
