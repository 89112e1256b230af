"""Rooms beside a layout: how many there can be, and of how many cells."""

from letpast.errors import LetError

MOST_ROOMS = 4
MOST_ROOM_CELLS = 10 ** 31


class BadRooms(LetError):
    """No row of rooms: the number of the first wrong one, or None if there are too many."""

    def __init__(self, number):
        self.number = number


def settled_rooms(rooms):
    """The cells of the rooms, as a tuple."""
    if len(rooms) > MOST_ROOMS:
        raise BadRooms(None)
    for number, cells in enumerate(rooms):
        if not 0 <= cells <= MOST_ROOM_CELLS:
            raise BadRooms(number)
    return tuple(rooms)
