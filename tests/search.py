"""A full search of all states of a few blocks; it knows nothing of the package.

A state is the tuple of the places of all blocks: a start, or (-1, room).
"""

import itertools


def overlapping(one, other):
    (start, size), (other_start, other_size) = one, other
    return start < other_start + other_size and other_start < start + size


def is_possible(state, sizes, capacity, rooms):
    spans = [(at, size) for at, size in zip(state, sizes) if type(at) is int]
    if any(start + size > capacity for start, size in spans):
        return False
    if any(overlapping(one, other) for one, other in itertools.combinations(spans, 2)):
        return False
    held = [sum(size for at, size in zip(state, sizes) if at == (-1, number)) for number in range(len(rooms))]
    return all(cells <= most for cells, most in zip(held, rooms))


def all_states(sizes, capacity, rooms):
    """All possible states, block by block."""
    places = [*range(capacity), *((-1, number) for number in range(len(rooms)))]
    states = [()]
    for _ in sizes:
        states = [(*state, at) for state in states for at in places]
        states = [state for state in states if is_possible(state, sizes, capacity, rooms)]
    return states


def groups(sizes, capacity, rooms):
    """The states without a block in a room, in lists: each can come to those of its own list, and to no other one."""
    states = all_states(sizes, capacity, rooms)
    parent = {state: state for state in states}

    def top(state):
        while parent[state] != state:
            parent[state] = state = parent[parent[state]]
        return state

    # A step changes the place of one block: what is alike but for one block is a step away.
    for index in range(len(sizes)):
        first = {}
        for state in states:
            rest = state[:index] + state[index + 1:]
            parent[top(state)] = top(first.setdefault(rest, state))
    found = {}
    for state in states:
        if all(type(at) is int for at in state):
            found.setdefault(top(state), []).append(state)
    return list(found.values())


def order_of(state):
    """The indices of the blocks by their starts, for a state without a block in a room."""
    return tuple(sorted(range(len(state)), key=lambda index: state[index]))


def crossing_sets(state, sizes, capacity):
    """For each order all sets of blocks that cross on some way without rooms from a state to it."""
    begin = (state, frozenset())
    seen, waiting, found = {begin}, [begin], {}
    while waiting:
        now, crossed = waiting.pop()
        found.setdefault(order_of(now), set()).add(crossed)
        for index, start in itertools.product(range(len(sizes)), range(capacity)):
            after = now[:index] + (start,) + now[index + 1:]
            if after != now and is_possible(after, sizes, capacity, ()):
                more = crossed if order_of(after) == order_of(now) else crossed | {index}
                if (after, more) not in seen:
                    seen.add((after, more))
                    waiting.append((after, more))
    return found
