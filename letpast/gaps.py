"""Gaps: how room is made for one block more, with the fewest cells moved and the order kept."""

from letpast.errors import LetError


class BadLength(LetError):
    """A gap of less than one cell is wanted."""


def long_runs(layout, length):
    """Triples for all runs whose gaps have together at least some length.

    A triple is how many cells the blocks of the run have together, the index at which it begins,
    and that behind its last block.
    """
    runs = []
    gaps = layout.gaps
    for first in range(len(gaps)):
        for behind in range(first, len(gaps)):
            if sum([cells for _, cells in gaps[first:behind + 1]]) >= length:
                runs.append((sum([size for _, _, size in layout.blocks[first:behind]]), first, behind))
    return runs


def gap_plan(layout, length):
    """None, or where a gap of some length can be made, how many cells are moved for it, and the plan."""
    if length < 1:
        raise BadLength("a gap of less than one cell is wanted")
    if layout.free < length:
        return None
    # The triples are compared as the document compares runs: cells, index, number of blocks.
    moved, first, behind = min(long_runs(layout, length))
    end, _ = layout.gaps[first]
    plan = []
    for name, _, size in layout.blocks[first:behind]:
        plan.append((name, end))
        end += size
    return end, moved, tuple(plan)
