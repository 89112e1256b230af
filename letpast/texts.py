"""The texts of layouts: writing and reading them."""

from letpast.errors import LetError
from letpast.layouts import FIGURES, LETTERS, MOST_NAME_SIGNS, Layout, check_blocks

MOST_FIGURES = 32


class BadText(LetError):
    """A text that does not have the form: the position where that shows first."""

    def __init__(self, position):
        self.position = position


def write_layout(layout):
    """The text of a layout."""
    words = [f"{name}@{start}+{size}" for name, start, size in layout.blocks]
    return " ".join([str(layout.capacity), *words])


def read_layout(text):
    """The Layout of which this is the text."""
    capacity, blocks = split_text(text)
    check_blocks(capacity, blocks, front_fault)
    return Layout(capacity, blocks)


def front_fault(block, earlier):
    """The word "front" if a block starts ahead of the end of the one in front of it, otherwise None."""
    if not earlier:
        return None
    _, front_start, front_size = earlier[-1]
    return "front" if block[1] < front_start + front_size else None


def split_text(text):
    """The capacity and the list of the blocks that a text tells, however great or many they are."""
    at = number_end(text, 0)
    capacity = int(text[:at])
    blocks = []
    while at < len(text):
        block, at = block_at(text, at)
        blocks.append(block)
    return capacity, blocks


# The position that BadText tells is always where one of these looks: a sign that does not
# fit stands there, or it is the end of the text.

def block_at(text, at):
    """The block that a text tells from a position on, and the position behind it."""
    name_start = sign_end(text, at, " ")
    at = name_end(text, name_start)
    name = text[name_start:at]
    number_start = sign_end(text, at, "@")
    at = number_end(text, number_start)
    start = int(text[number_start:at])
    number_start = sign_end(text, at, "+")
    at = number_end(text, number_start)
    size = int(text[number_start:at])
    return (name, start, size), at


def sign_end(text, at, sign):
    """The position behind a sign that has to stand at a position."""
    if text[at:at + 1] != sign:
        raise BadText(at)
    return at + 1


def number_end(text, at):
    """The position behind the number that has to stand from a position on."""
    # A number that begins with 0 ends there: what follows is judged as what stands behind it.
    if text[at:at + 1] == "0":
        return at + 1
    end = run_end(text, at, FIGURES, MOST_FIGURES)
    if end == at:
        raise BadText(at)
    return end


def name_end(text, at):
    """The position behind the name that has to stand from a position on."""
    if run_end(text, at, LETTERS, 1) == at:
        raise BadText(at)
    return run_end(text, at, LETTERS + FIGURES, MOST_NAME_SIGNS)


def run_end(text, at, signs, most):
    """The position behind the longest run of some signs from a position on, at most so many."""
    end = at
    while end < len(text) and end - at < most and text[end] in signs:
        end += 1
    return end
