"""What several test files use: errors as plain values, small layouts, and a second way to follow plans."""

import itertools
import random
import time

from letpast.errors import LetError
from letpast.layouts import Layout
from letpast.texts import read_layout, write_layout

ROOM_WORD = "room"


def room(number):
    return (ROOM_WORD, number)


def told(call, *arguments):
    """The answer of a call; or of the LetError that it raises the name of the class, and its attributes."""
    try:
        return call(*arguments)
    except LetError as wrong:
        return (type(wrong).__name__, vars(wrong))


def not_possible(number, reason):
    return ("NotPossible", {"number": number, "reason": reason})


def bad_plan(number):
    return ("BadPlan", {"number": number})


def bad_rooms(number):
    return ("BadRooms", {"number": number})


def plain(value):
    """The value with each Layout in it as its text, so that values can be compared."""
    if isinstance(value, Layout):
        return write_layout(value)
    if isinstance(value, tuple):
        return tuple(plain(part) for part in value)
    return value


def as_lists(value):
    """The value with lists in the place of tuples, also within."""
    if isinstance(value, (list, tuple)):
        return [as_lists(part) for part in value]
    return value


def kinds_within(value):
    """The kinds of all values in a value."""
    kinds = {type(value)}
    if isinstance(value, (list, tuple)):
        for part in value:
            kinds |= kinds_within(part)
    return kinds


def small_layouts(capacities, most_blocks):
    """Every layout of such a capacity, with blocks called a, b and so on by their starts."""
    for capacity in capacities:
        for count in range(most_blocks + 1):
            for ends in itertools.combinations_with_replacement(range(capacity + 1), 2 * count):
                spans = list(zip(ends[::2], ends[1::2]))
                if all(start < end for start, end in spans):
                    yield Layout(capacity, [(name, start, end - start) for name, (start, end) in zip("abcd", spans)])


class Follower:
    """Follows a plan cell by cell; it knows nothing of the package but layouts."""

    def __init__(self, text, rooms, cells=None):
        self.layout = read_layout(text)
        self.rooms = rooms
        self.places = {name: start for name, start, _ in self.layout.blocks}
        self.sizes = {name: size for name, _, size in self.layout.blocks}
        self.row = list(cells or range(self.layout.capacity))
        self.numbers = {name: self.row[start:start + size] for name, start, size in self.layout.blocks}

    def span(self, name):
        return set(range(self.places[name], self.places[name] + self.sizes[name]))

    def lying(self):
        return [name for name in self.places if type(self.places[name]) is int]

    def inside(self, number):
        return tuple(name for name in self.places if self.places[name] == room(number))

    def fault(self, name, place):
        if name not in self.places:
            return "no block"
        if type(place) is tuple:
            if place[1] not in range(len(self.rooms)):
                return "no room"
            if name in self.inside(place[1]):
                return "there already"
            held = sum(self.sizes[other] for other in self.inside(place[1]))
            return "full" if held + self.sizes[name] > self.rooms[place[1]] else None
        wanted = set(range(place, place + self.sizes[name]))
        if not wanted <= set(range(self.layout.capacity)):
            return "beyond"
        if any(other != name and self.span(other) & wanted for other in self.lying()):
            return "overlap"
        return None

    def put(self, name, place):
        self.places[name] = place
        if type(place) is int:
            for index, number in enumerate(self.numbers[name]):
                self.row[place + index] = number

    def text(self):
        spans = sorted((self.places[name], name) for name in self.lying())
        return " ".join([str(self.layout.capacity)] + [f"{name}@{at}+{self.sizes[name]}" for at, name in spans])

    def rooms_told(self):
        return tuple(self.inside(number) for number in range(len(self.rooms)))

    def possible_steps(self):
        places = [*range(self.layout.capacity), *(room(number) for number in range(len(self.rooms)))]
        return [(name, at) for name in self.places for at in places if self.fault(name, at) is None]


def random_plans(count, most_steps):
    """Triples (text, rooms, plan) of possible plans; the same ones in each run."""
    chance = random.Random(2026)
    texts = ("9 a@0+3 b@4+2 c@6+1", "7 k@1+2 m@3+2", "6 a@0+1 b@1+2 c@3+2", "5 a@0+2", "8 z@0+1 y@2+3 x@5+2 w@7+1",
             "15 " + " ".join(f"n{number}@{number + 1}+1" for number in range(12)))
    for _ in range(count):
        follower = Follower(chance.choice(texts), chance.choice(((), (2,), (3, 1), (0, 2, 2), (1, 1, 2, 6))))
        text, plan = follower.text(), []
        for _ in range(chance.randrange(most_steps + 1)):
            plan.append(chance.choice(follower.possible_steps()))
            follower.put(*plan[-1])
        yield text, follower.rooms, tuple(plan)


def bad_order(number, reason):
    return ("BadOrder", {"number": number, "reason": reason})


class WithinSeconds:
    """A block of a test that has to be done within so many seconds."""

    def __init__(self, seconds):
        self.seconds = seconds

    def __enter__(self):
        self.begin = time.perf_counter()

    def __exit__(self, kind, value, trace):
        took = time.perf_counter() - self.begin
        if kind is None and took > self.seconds:
            raise AssertionError(f"{took:.2f} seconds, and not at most {self.seconds}")


def in_a_row(sizes, free=0):
    """The layout of blocks n0, n1 and so on of these sizes, side by side from 0 on, with free cells behind them."""
    blocks = [(f"n{number}", sum(sizes[:number]), size) for number, size in enumerate(sizes)]
    return Layout(sum(sizes) + free, blocks)


def layouts_of(sizes, free):
    """Every layout with blocks a, b and so on of these sizes and so many free cells, in every order."""
    blocks = list(zip("abcdefghijkl", sizes))
    for row in itertools.permutations(blocks):
        for ends in itertools.combinations_with_replacement(range(free + 1), len(row)):
            starts = [end + sum(size for _, size in row[:number]) for number, end in enumerate(ends)]
            yield Layout(sum(sizes) + free, [(name, start, size) for start, (name, size) in zip(starts, row)])
