"""A3, and "letpast/texts.py" in the interface."""

import itertools
import re
import unittest

from letpast.errors import LetError
from letpast.layouts import BadLayout, Layout
from letpast.texts import BadText, read_layout, write_layout

EXAMPLE = "16 a@0+8 b@9+3 c@14+2"
FORM = re.compile(
    r"(0|[1-9][0-9]{0,31})( [a-z][a-z0-9]{0,7}@(0|[1-9][0-9]{0,31})\+(0|[1-9][0-9]{0,31}))*"
)
ENDINGS = ("", "0", "a@0+0", "@0+0", "0+0", "+0")


def has_form(text):
    return FORM.fullmatch(text) is not None


def begins_form(text):
    """Whether some text of the form begins with this text."""
    return any(has_form(text + ending) for ending in ENDINGS)


def bad_position(text):
    """What BadText has to tell of a text that does not have the form."""
    for position in range(len(text)):
        if not begins_form(text[:position + 1]):
            return position
    return len(text)


class Cases(unittest.TestCase):
    def read(self, text, capacity, blocks):
        layout = read_layout(text)
        self.assertIs(type(layout), Layout)
        self.assertEqual((layout.capacity, layout.blocks), (capacity, blocks))
        self.assertEqual(write_layout(layout), text)
        self.assertEqual(write_layout(Layout(capacity, blocks[::-1])), text)

    def bad_text(self, text, position):
        with self.assertRaises(BadText) as caught:
            read_layout(text)
        self.assertEqual(caught.exception.position, position, text)

    def bad_layout(self, text, number, reason):
        with self.assertRaises(BadLayout) as caught:
            read_layout(text)
        self.assertEqual((caught.exception.number, caught.exception.reason), (number, reason), text)


class Layouts(Cases):
    def test_example(self):
        self.read(EXAMPLE, 16, (("a", 0, 8), ("b", 9, 3), ("c", 14, 2)))
        layout = read_layout(EXAMPLE)
        self.assertEqual((layout.free, layout.longest_gap), (3, 2))
        self.assertEqual(layout.gaps, ((0, 0), (8, 1), (12, 2), (16, 0)))
        self.assertEqual((layout.place_for(2), layout.place_for(3)), (12, None))

    def test_no_blocks(self):
        self.read("10", 10, ())
        self.assertEqual(read_layout("10").gaps, ((0, 10),))
        self.read("0", 0, ())

    def test_write_lists_and_any_sequence(self):
        layout = Layout(16, [["c", 14, 2], ["a", 0, 8], ["b", 9, 3]])
        self.assertEqual(write_layout(layout), EXAMPLE)

    def test_names_and_touching_blocks(self):
        self.read("9 abcdefgh@1+2 z9@3+1 room@4+5", 9, (("abcdefgh", 1, 2), ("z9", 3, 1), ("room", 4, 5)))

    def test_greatest_numbers(self):
        self.read(f"{10 ** 31} a@{9 * 10 ** 30}+{10 ** 30}", 10 ** 31, (("a", 9 * 10 ** 30, 10 ** 30),))

    def test_twelve_blocks(self):
        blocks = tuple((f"n{k}", k, 1) for k in range(12))
        self.read("12" + "".join(f" n{k}@{k}+1" for k in range(12)), 12, blocks)

    def test_all_small_layouts(self):
        spans = [(start, size) for start in range(4) for size in range(1, 5)]
        for (one, other), capacity in itertools.product(itertools.product(spans, repeat=2), range(5)):
            try:
                layout = Layout(capacity, [("b1", *one), ("a", *other)])
            except BadLayout:
                continue
            text = write_layout(layout)
            self.assertTrue(has_form(text))
            self.read(text, capacity, layout.blocks)


class Positions(Cases):
    def test_examples(self):
        self.bad_text("16 a@00+8", 6)
        self.bad_text("16 a@0+", 7)

    def test_every_beginning_of_a_text(self):
        for end in range(len(EXAMPLE)):
            text = EXAMPLE[:end]
            if not has_form(text):
                self.bad_text(text, end)
        self.bad_text("", 0)
        self.bad_text("16 ", 3)

    def test_numbers_have_at_most_32_figures(self):
        most = "9" * 32
        self.bad_text("9" * 33, 32)
        self.bad_text(most + "9 a@0+1", 32)
        self.bad_text(f"16 a@{most}9+1", 37)
        self.bad_text(f"16 a@0+{most}9", 39)
        self.bad_text(f"16 a@0+{most}9 b", 39)
        self.bad_text(f"16 a@{most}", 37)
        self.bad_layout(most, None, "capacity")
        self.bad_layout(f"16 a@{most}+1", 0, "beyond")
        self.bad_layout(f"16 a@0+{most}", 0, "size")

    def test_no_0_ahead(self):
        for text, position in (("00", 1), ("01", 1), ("016", 1), ("16 a@01+8", 6), ("16 a@0+08", 8), ("16 a@0+00", 8)):
            self.bad_text(text, position)

    def test_names_have_1_to_8_signs(self):
        self.bad_text("16 @0+8", 3)
        self.bad_text("16 abcdefghi@0+8", 11)
        self.bad_text("16 a23456789", 11)
        self.bad_text("16 abcdefgh", 11)
        self.bad_text("16 1a@0+8", 3)
        self.bad_text("16 aA@0+8", 4)

    def test_signs_that_do_not_fit(self):
        cases = (
            ("-1", 0), ("+1", 0), (" 16", 0), ("a", 0), ("16a", 2), ("16\n", 2), ("1_6", 1), ("16  a@0+8", 3),
            ("16\ta@0+8", 2), ("16 a @0+8", 4), ("16 a@ 0+8", 5), ("16 a@-1+8", 5), ("16 a@0-8", 6), ("16 a@0 +8", 6),
            ("16 a@0+ 8", 7), ("16 a@0++8", 7), ("16 a@0+-8", 7), ("16 a@0+8 ", 9), ("16 a@0+8b", 8), ("16 a@0+8\n", 8),
            ("16 a@+8", 5), ("16 a0+8", 5), ("16 a@@0+8", 5), ("1\u0661", 1), ("\u0661", 0), ("16 \u00e4@0+8", 3),
            ("16 a\u00e4@0+8", 4), ("16 a@0+\u00b2", 7), ("1 6", 2),
        )
        for text, position in cases:
            self.assertEqual(bad_position(text), position)
            self.bad_text(text, position)

    def test_the_form_comes_ahead_of_the_layout(self):
        self.bad_text(f"{10 ** 31 + 1} a@0+0 a@0+0 ", 45)
        self.bad_text("1" + " a@0+0" * 20 + "!", 121)

    def test_all_short_texts(self):
        # Behind the first sign that does not fit nothing counts any more, so one follows at most.
        beginnings = [""]
        for _ in range(8):
            longer = []
            for text in (old + sign for old in beginnings for sign in "0 1@+az/:`{"):
                if has_form(text):
                    longer.append(text)
                    continue
                self.bad_text(text, bad_position(text))
                if begins_form(text):
                    longer.append(text)
                else:
                    self.bad_text(text + " a@0+1", len(text) - 1)
            beginnings = longer


class NoLayouts(Cases):
    def test_front(self):
        self.bad_layout("16 b@9+3 a@0+8", 1, "front")
        self.bad_layout("16 a@0+8 b@7+3", 1, "front")
        self.bad_layout("16 a@0+8 b@0+8", 1, "front")
        self.bad_layout("16 a@0+2 b@8+2 c@4+2", 2, "front")
        self.bad_layout("16 a@0+2 b@8+2 c@9+2", 2, "front")
        self.bad_layout("16 a@3+5 b@4+1", 1, "front")

    def test_the_other_reasons(self):
        self.bad_layout(str(10 ** 31 + 1), None, "capacity")
        self.bad_layout("16 a@0+0", 0, "size")
        self.bad_layout(f"{10 ** 31} a@0+{10 ** 30 + 1}", 0, "size")
        self.bad_layout("16 a@0+8 a@8+1", 1, "twice")
        self.bad_layout("16 a@0+8 b@8+9", 1, "beyond")
        self.bad_layout("0 a@0+1", 0, "beyond")

    def test_many(self):
        self.bad_layout("13" + "".join(f" n{k}@{k}+1" for k in range(13)), None, "many")
        self.bad_layout("16" + " a@0+0" * 500, None, "many")

    def test_capacity_and_many_come_first(self):
        self.bad_layout(f"{10 ** 31 + 1}" + " a@0+0" * 13, None, "capacity")
        self.bad_layout("16" + " b@9+3 a@0+8" * 7, None, "many")

    def test_an_earlier_block_comes_ahead_of_an_earlier_reason(self):
        self.bad_layout("16 b@9+3 a@0+8 c@0+0", 1, "front")
        self.bad_layout("16 a@9+30 a@0+0", 0, "beyond")
        self.bad_layout("16 a@0+1 b@1+0 c@0+1", 1, "size")

    def test_the_first_reason_of_a_block(self):
        self.bad_layout("16 a@9+3 a@0+0", 1, "size")
        self.bad_layout("16 a@9+3 a@0+20", 1, "twice")
        self.bad_layout("16 a@9+3 a@0+2", 1, "twice")
        self.bad_layout("16 a@9+3 b@0+20", 1, "beyond")
        self.bad_layout("16 a@9+3 b@0+9", 1, "front")

    def test_all_pairs_of_small_blocks(self):
        spans = [(start, size) for start in range(4) for size in range(4)]
        for capacity, one, other in itertools.product(range(5), spans, spans):
            wanted = None
            end = 0
            for number, (start, size) in enumerate((one, other)):
                for reason, holds in (("size", size < 1), ("beyond", start + size > capacity), ("front", start < end)):
                    if wanted is None and holds:
                        wanted = (number, reason)
                end = start + size
            text = f"{capacity} b@{one[0]}+{one[1]} a@{other[0]}+{other[1]}"
            if wanted is not None:
                self.bad_layout(text, *wanted)
            else:
                self.read(text, capacity, (("b", *one), ("a", *other)))


class Errors(unittest.TestCase):
    def test_all_are_under_let_error(self):
        self.assertTrue(issubclass(BadText, LetError))


if __name__ == "__main__":
    unittest.main()
