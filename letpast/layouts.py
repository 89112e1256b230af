"""Layouts: blocks with names in a row of cells, and the gaps between them."""

from letpast.errors import LetError

MOST_CAPACITY = 10 ** 31
MOST_BLOCKS = 12
MOST_SIZE = 10 ** 30
MOST_NAME_SIGNS = 8
LETTERS = "abcdefghijklmnopqrstuvwxyz"
FIGURES = "0123456789"


class BadLayout(LetError):
    """No layout: the number of the first wrong block (or None), and why."""

    def __init__(self, number, reason):
        self.number = number
        self.reason = reason


class NoBlock(LetError):
    """No block has this name."""


class BadSize(LetError):
    """A place for less than one cell is wanted."""


def is_name(name):
    """Whether a block can have this name."""
    if not isinstance(name, str) or not 1 <= len(name) <= MOST_NAME_SIGNS:
        return False
    return name[0] in LETTERS and all(sign in LETTERS + FIGURES for sign in name)


def lone_fault(capacity, block, earlier):
    """The first reason against a block, but for where it lies among the earlier ones; or None."""
    name, start, size = block
    if not is_name(name):
        return "name"
    if start < 0:
        return "start"
    if not 1 <= size <= MOST_SIZE:
        return "size"
    if any(name == other[0] for other in earlier):
        return "twice"
    if start + size > capacity:
        return "beyond"
    return None


def overlap_fault(block, earlier):
    """The word "overlap" if a block has a cell in common with an earlier one, otherwise None."""
    _, start, size = block
    for _, other_start, other_size in earlier:
        if start < other_start + other_size and other_start < start + size:
            return "overlap"
    return None


def check_blocks(capacity, blocks, place_fault):
    """Raise BadLayout for what is wrong first.

    place_fault(block, earlier) is the reason against where a block lies, asked last; or None.
    """
    if not 0 <= capacity <= MOST_CAPACITY:
        raise BadLayout(None, "capacity")
    if len(blocks) > MOST_BLOCKS:
        raise BadLayout(None, "many")
    for number, block in enumerate(blocks):
        earlier = blocks[:number]
        reason = lone_fault(capacity, block, earlier)
        if reason is None:
            reason = place_fault(block, earlier)
        if reason is not None:
            raise BadLayout(number, reason)


def gaps_around(capacity, blocks):
    """The pairs (start, cells) of all gaps around blocks that are given by their starts."""
    gaps = []
    end = 0
    for _, start, size in blocks:
        gaps.append((end, start - end))
        end = start + size
    gaps.append((end, capacity - end))
    return tuple(gaps)


class Layout:
    """Blocks (name, start, size) that lie in a row of cells."""

    def __init__(self, capacity, blocks):
        check_blocks(capacity, blocks, overlap_fault)
        # Copied, so that lists that the caller changes later change nothing here.
        triples = [tuple(block) for block in blocks]
        self.capacity = capacity
        self.blocks = tuple(sorted(triples, key=lambda block: block[1]))
        self.order = tuple([block[0] for block in self.blocks])
        self.free = capacity - sum([block[2] for block in self.blocks])
        self.gaps = gaps_around(capacity, self.blocks)
        self.longest_gap = max([cells for _, cells in self.gaps])

    def start_of(self, name):
        """The number of the first cell of a block."""
        _, start, _ = self._block(name)
        return start

    def size_of(self, name):
        """How many cells a block has."""
        _, _, size = self._block(name)
        return size

    def place_for(self, size):
        """The start of the first gap that has at least so many cells, or None."""
        if size < 1:
            raise BadSize("a place is wanted for less than one cell")
        for start, cells in self.gaps:
            if cells >= size:
                return start
        return None

    def _block(self, name):
        for block in self.blocks:
            if block[0] == name:
                return block
        raise NoBlock(f"no block is called {name}")
