"""Slides: the plan that brings the blocks of a layout to other starts in the same order."""

from letpast.errors import LetError


class BadTarget(LetError):
    """A layout that is no target: why."""

    def __init__(self, reason):
        self.reason = reason


def sizes_by_name(layout):
    """A dict of the sizes of the blocks."""
    return {name: size for name, _, size in layout.blocks}


def check_target(layout, target):
    """Raise BadTarget for another capacity, then for other blocks, whatever their order is."""
    if target.capacity != layout.capacity:
        raise BadTarget("capacity")
    if sizes_by_name(target) != sizes_by_name(layout):
        raise BadTarget("blocks")


def slides(layout, target):
    """The steps (name, start) that lead to a target of the same order, one for each block that moves."""
    check_target(layout, target)
    if target.order != layout.order:
        raise BadTarget("order")
    down = []
    up = []
    for name, start, _ in layout.blocks:
        wanted = target.start_of(name)
        if wanted < start:
            down.append((name, wanted))
        if wanted > start:
            up.append((name, wanted))
    return (*down, *up[::-1])
