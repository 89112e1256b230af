"""Crossings: which blocks cross others, the fewest that must, and a plan that leads to an order."""

from letpast.carrying import Carrier
from letpast.errors import LetError
from letpast.orders import greater_names, settled_order, sizes_of
from letpast.packing import packed
from letpast.plans import first_places, moves_of
from letpast.rooms import settled_rooms

MOST_WEIGHT = 10 ** 30


class BadWeights(LetError):
    """No row of weights: the number of the first wrong one, or None for another number of weights."""

    def __init__(self, number):
        self.number = number


def check_kept(layout, kept):
    """Raise NoBlock for a name that no block has."""
    for name in kept:
        layout.start_of(name)


def check_weights(layout, weights):
    """Raise BadWeights for what is wrong first."""
    if len(weights) != len(layout.blocks):
        raise BadWeights(None)
    for number, weight in enumerate(weights):
        if not 0 <= weight <= MOST_WEIGHT:
            raise BadWeights(number)


def sets_alike(layout, order):
    """All sets of blocks that stand in the same sequence in the layout and in an order.

    A set is the tuple of the positions that its blocks have in the layout.
    """
    ranks = [order.index(name) for name in layout.order]
    sets = [()]
    for position, rank in enumerate(ranks):
        longer = [(*chosen, position) for chosen in sets if not chosen or ranks[chosen[-1]] < rank]
        sets = [*sets, *longer]
    return sets


def first_staying(layout, order, must, weights):
    """The names of the first set that stands alike, with the greatest weights and all that must; or None."""
    needed = [layout.order.index(name) for name in must]
    found = []
    for chosen in sets_alike(layout, order):
        if all(position in chosen for position in needed):
            found.append((-sum([weights[position] for position in chosen]), chosen))
    if not found:
        return None
    _, first = min(found)
    return tuple([layout.order[position] for position in first])


def fewest_crossings(layout, order, kept, weights):
    """The names of the blocks that stay, and of those that cross; None if no set can stay."""
    names = settled_order(layout, order)
    check_kept(layout, kept)
    check_weights(layout, weights)
    stay = first_staying(layout, names, [*greater_names(layout, layout.free), *kept], weights)
    if stay is None:
        return None
    return stay, tuple([name for name in names if name not in stay])


def names_by_places(places):
    """The names in the order of their places, which are starts."""
    pairs = sorted([(start, name) for name, start in places.items()])
    return [name for _, name in pairs]


def crossed(layout, plan):
    """The names of the blocks that cross in a plan without rooms, by their starts."""
    places = first_places(layout)
    crossing = []
    for name, _, behind in moves_of(layout, plan, ()):
        ahead = names_by_places(places)
        places[name] = behind
        if names_by_places(places) != ahead:
            crossing.append(name)
    return tuple([name for name in layout.order if name in crossing])


def order_plan(layout, order, rooms):
    """The plan that brings the blocks into an order, or None if the layout cannot come to it."""
    names = settled_order(layout, order)
    settled = settled_rooms(rooms)
    most, packing = packed(sizes_of(layout), settled)
    must = greater_names(layout, layout.free + most)
    stay = first_staying(layout, names, must, [1] * len(names))
    if stay is None:
        return None
    carrier = Carrier(layout, settled, packing)
    for number, name in enumerate(names):
        if name not in stay:
            carrier.carry(name, names[number - 1] if number else None)
    return tuple(carrier.steps)
