"""Cells: the whole numbers in the cells of a layout, and how plans carry them along."""

from letpast.errors import LetError
from letpast.plans import (
    first_places, is_whole, layout_at, layout_behind, names_in_rooms, possible_moves, settled_plan,
)
from letpast.rooms import settled_rooms

MOST_CELLS = 600


class BadCells(LetError):
    """These cells cannot be carried along: why."""

    def __init__(self, reason):
        self.reason = reason


def check_cells(layout, cells):
    """Raise BadCells for what is wrong first."""
    if layout.capacity > MOST_CELLS:
        raise BadCells("many")
    if len(cells) != layout.capacity:
        raise BadCells("length")


def moves_with_cells(layout, plan, rooms, cells):
    """The moves of a plan; raises BadPlan, BadRooms, BadCells, then NotPossible."""
    steps = settled_plan(plan)
    settled = settled_rooms(rooms)
    check_cells(layout, cells)
    return possible_moves(layout, steps, settled)


def carry(layout, row, aside, move):
    """Change the row of cells, and the dict of the numbers of blocks in rooms, as a move does."""
    name, ahead, behind = move
    size = layout.size_of(name)
    numbers = row[ahead:ahead + size] if is_whole(ahead) else aside[name]
    if is_whole(behind):
        row[behind:behind + size] = numbers
    else:
        aside[name] = numbers


def cells_behind(layout, moves, cells):
    """The cells behind some moves, as a tuple."""
    row = list(cells)
    aside = {}
    for move in moves:
        carry(layout, row, aside, move)
    return tuple(row)


def carried(layout, plan, rooms, cells):
    """The layout behind a plan, and its cells."""
    moves = moves_with_cells(layout, plan, rooms, cells)
    return layout_behind(layout, moves), cells_behind(layout, moves, cells)


def told_at(layout, rooms, places, row):
    """What steps_of tells when the blocks are at some places, and the cells are this row."""
    return layout_at(layout, places), names_in_rooms(places, rooms), tuple(row)


def steps_of(layout, plan, rooms, cells):
    """Ahead of the first step and behind each: the layout, the names in the rooms, and the cells."""
    moves = moves_with_cells(layout, plan, rooms, cells)
    places = first_places(layout)
    row = list(cells)
    aside = {}
    told = [told_at(layout, rooms, places, row)]
    for move in moves:
        carry(layout, row, aside, move)
        name, _, behind = move
        places[name] = behind
        told.append(told_at(layout, rooms, places, row))
    return tuple(told)


def undone(layout, plan, rooms, cells):
    """The cells behind a plan whose steps are then undone, the last one first."""
    moves = moves_with_cells(layout, plan, rooms, cells)
    back = [(name, behind, ahead) for name, ahead, behind in reversed(moves)]
    return cells_behind(layout, [*moves, *back], cells)
