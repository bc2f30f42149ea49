"""Point 24: families as texts, texts as families."""

import random
import re
import unittest

from sharebags.bags import is_family
from sharebags.errors import BadBags, BadFamily, InvalidText, NotText
from sharebags.texts import draw, read, write
from tests import naive
from tests.calls import check_error
from tests.samples import HALVES, LAST_STAR, PATH, STAR, WHOLE, random_family, size_of
from tests.wrong import FAMILIES, INTEGERS, NO_BAGS, NO_FAMILIES, OTHER_KINDS

SMALL = [family for size in range(2, 6) for family in naive.families(size)]
RANDOM = [random_family(random.Random(seed), size) for seed in range(5) for size in (11, 23, 60)]
BIG = [PATH, STAR, LAST_STAR, WHOLE, HALVES]
# Figures, what stands between them, and signs that stand nowhere in a text; some are figures elsewhere.
SIGNS = list("0123456789. ") + list("-+_,;:xo()[]'\"\n\t\r\v\x00/") + ["\u00b2", "\u0663", "\uff11", "\u00a0", "\u2003", "e", "\U0001d7d9"]


def slow_bags(text):
    """The bags of a text, or the place of the first sign that cannot stand there."""
    bags, bag, place = [], [], 1
    # Figures that stand together, and all other signs one by one; None behind the last one.
    for piece in re.findall("[0-9]+|[^0-9]", text) + [None]:
        ready = bool(bag) and bag[-1] != "."
        if piece is None:
            return bags + [tuple(bag[::2])] if ready and len(bag) > 1 else place
        if piece[0] in "0123456789":
            before = bag[-2] if bag else -1
            if ready or str(int(piece)) != piece or not before < int(piece) <= 59:
                return place
            bag.append(int(piece))
        elif piece == "." and ready:
            bag.append(".")
        elif piece == " " and ready and len(bag) > 1:
            bags.append(tuple(bag[::2]))
            bag = []
        else:
            return place
        place += len(piece)


class TextsTest(unittest.TestCase):
    def check_read(self, text):
        """Check what a text is read as."""
        found = slow_bags(text)
        if isinstance(found, int):
            self.assertEqual(check_error(self, InvalidText, read, text).place, found, repr(text))
        elif found == sorted(set(found)) and is_family(tuple(found)):
            self.assertEqual(read(text), tuple(found), repr(text))
        else:
            check_error(self, BadFamily, read, text)

    def test_there_and_back(self):
        for family in SMALL + RANDOM + BIG + FAMILIES:
            text = write(family)
            self.assertEqual(text, " ".join(".".join(map(str, bag)) for bag in family))
            self.assertEqual(read(text), family)
            self.check_read(text)

    def test_told_texts(self):
        self.assertEqual([write(((0, 1),)), read("0.1")], ["0.1", ((0, 1),)])
        self.assertEqual(write(WHOLE), ".".join(map(str, range(60))))
        self.assertEqual(read("0.1 1.2 1.3"), ((0, 1), (1, 2), (1, 3)))

    def test_every_way_to_spoil_a_text_at_each_place(self):
        families = [((0, 1),), ((0, 1, 2), (2, 3)), ((0, 1), (1, 2, 3), (3, 4))]
        for family in families + [PATH[:11], ((0, 9, 10, 11), *((k, 11) for k in range(1, 9)))]:
            text = write(family)
            for place in range(len(text) + 1):
                self.check_read(text[:place])
                self.check_read(text[place:])
                self.check_read(text[:place] + text[place + 1:])
                self.check_read(text[:place] + text[place:place + 1] + text[place:])
                for sign in SIGNS:
                    self.check_read(text[:place] + sign + text[place:])
                    self.check_read(text[:place] + sign + text[place + 1:])
                    self.check_read(text[:place] + sign)

    def test_all_short_texts(self):
        texts = [""]
        for text in texts:
            self.check_read(text)
            if len(text) < 6:
                texts += [text + sign for sign in "012. "]

    def test_random_texts(self):
        source = random.Random(1)
        for _ in range(4000):
            pieces = [source.choice(["0", "1", "2", "3", "9", "10", "58", "59", "60", "00", "05", "100"]) for _ in range(source.randint(1, 6))]
            self.check_read("".join(piece + source.choice([".", ".", ".", " ", " ", "", "x"]) for piece in pieces))
        for family in RANDOM + BIG:
            text = write(family)
            for _ in range(60):
                place = source.randrange(len(text))
                self.check_read(text[:place] + source.choice(SIGNS) + text[place + source.randint(0, 2):])

    def check_place(self, place, *texts):
        """Check the place at which texts are not good."""
        for text in texts:
            self.assertEqual(check_error(self, InvalidText, read, text).place, place, repr(text))

    def test_a_text_that_ends_too_early(self):
        self.check_place(1, "")
        self.check_place(2, "0", "7")
        self.check_place(3, "0.", "10", "59")
        self.check_place(5, "0.1.", "0.1 ")
        self.check_place(6, "0.1 1")
        self.check_place(7, "0.1 1.")
        for family in BIG:
            self.check_place(len(write(family)) + 2, write(family) + " ")

    def test_a_space_or_a_point_too_many(self):
        self.check_place(1, " ", ".", " 0.1", ".0.1", ".1")
        self.check_place(3, "0..1", "0. 1", "0. ", "0..")
        self.check_place(2, "0 ", "0 1", "0  1", "0 .1", "7 8.9")
        self.check_place(5, "0.1  1.2", "0.1 .1.2", "0.1. 1.2", "0.1..2", "0.1 . ")
        self.check_place(9, "0.1 1.2  ", "0.1 1.2 ", "0.1 1.2..")

    def test_a_leading_0_and_bead_0(self):
        self.check_place(1, "00.1", "01.2", "00", "01", "000000", "0059", "00x", "01 ", "09.1")
        self.check_place(3, "0.01", "0.00", "0.01 1.2", "0.012", "0.05x", "0.0 ", "0.0", "0.0.1", "0.0x")
        self.check_place(7, "0.1 1.02", "0.1 1.01.2", "0.1 1.0")
        self.check_place(5, "0.1 00.2", "0.1 01.2")
        self.assertEqual(read("0.1.2"), ((0, 1, 2),))
        # Bead 0 stands at the beginning of a bag alone.
        self.check_place(3, "1.0", "1.0.2")
        self.assertEqual(read("0.1 0.2"), ((0, 1), (0, 2)))

    def test_beads_59_and_60(self):
        self.assertEqual(read(write(PATH)), PATH)
        self.check_place(1, "60.61", "60", "60x", "99.1", "100", "1000000.1", "6" * 5000, "60 1.2", "061")
        self.check_place(3, "0.60", "0.61", "0.99", "0.100", "0.590", "0.60.61", "0.60 1.2", "0.60x", "0." + "1" * 9999, "0.600.")
        self.check_place(6, "0.59.60", "0.59.6", "0.59.59", "0.59.")
        self.check_place(5, "0.59x", "0.1 60.61", "0.59,60")
        check_error(self, BadFamily, read, "0.59")
        check_error(self, BadFamily, read, "58.59")

    def test_a_bead_not_above_the_one_before(self):
        self.check_place(3, "1.1", "1.0", "5.3", "5.3x", "5.5.6", "0.0", "5.3.", "5.3 0.1", "9.8")
        self.check_place(4, "59.58", "10.9", "12.1", "10.10", "59.0")
        self.check_place(5, "0.1.1", "0.1.0", "0.2.1", "0.1.1x", "0.9.1", "0.3.2 3.4")
        self.check_place(6, "0.10.9", "0.10.1", "0.10.10", "0.10.0")
        # Only the bead that stands right ahead in the same bag counts.
        self.assertEqual(read("0.1 0.2"), ((0, 1), (0, 2)))
        self.assertEqual(read("0.1.10 2.10 3.10 4.10 5.10 6.10 7.10 8.10 9.10")[0], (0, 1, 10))

    def test_bags_of_one_bead(self):
        self.check_place(2, "0 0.1", "0 1", "1 0.1", "0 ", "0 1 2")
        self.check_place(6, "0.1 1", "0.1 2 2.3", "0.1 1 ", "0.1 0x")
        self.check_place(7, "0.1 10 10.11", "0.1 12")

    def test_bags_that_are_no_family_or_not_ascending(self):
        for text in (
            "1.2 0.1", "0.2 0.1", "0.1 0.1", "0.1.2 0.1.2", "0.2 0.1.3", "0.2.3 0.1", "0.1.2 0.1", "2.3 0.1.2",
            "1.2", "0.2", "0.1 2.3", "0.1 0.2 1.2", "0.1 0.1.2", "0.1.2 1.2.3", "0.1 3.4", "0.1 1.2 2.3 0.3", "0.59", "0.1 1.2 0.2",
        ):
            check_error(self, BadFamily, read, text)
        # A place that is not good comes first, wherever it stands.
        self.check_place(12, "1.2 0.1 0.1x")
        self.check_place(9, "0.1 0.1 ")

    def test_no_figures_of_other_scripts(self):
        self.check_place(1, "\u0660.\u0661", "\uff10.1", "\u00b2.3")
        self.check_place(3, "0.\u0661", "0.\u00b9", "0.\U0001d7cf", "0.\u2460")
        self.check_place(4, "0.1\u0661", "0.1\u00b9", "0.1\u00a01.2", "0.1\t1.2", "0.1\n", "0.1\n1.2", "0.1,1.2", "0.1\x00")
        self.check_place(2, "1_0.11", "0\u00b72", "0,1", "0-1", "1e1.11")
        self.check_place(1, "-0.1", "+0.1", "(0.1)", "bags", "None", "\ufeff0.1")

    def test_no_text(self):
        for value in [kind for kind in OTHER_KINDS if not isinstance(kind, str)] + INTEGERS + FAMILIES + NO_FAMILIES:
            check_error(self, NotText, read, value)
        for value in [value for value in NO_BAGS if not isinstance(value, str)] + [("0.1",), ["0.1"], {"0.1": 1}, (), ("0", ".", "1")]:
            check_error(self, NotText, read, value)


class DrawnTest(unittest.TestCase):
    def test_drawn(self):
        for family in SMALL + RANDOM + BIG + FAMILIES:
            expected = []
            for bag in family:
                signs = ["."] * size_of(family)
                for bead in bag:
                    signs[bead] = "o"
                expected.append("".join(signs))
            found = draw(family)
            self.assertEqual(found, tuple(expected))
            self.assertEqual([type(found), {type(row) for row in found}], [tuple, {str}])

    def test_told_ones(self):
        self.assertEqual([draw(((0, 1),)), draw(WHOLE)], [("oo",), ("o" * 60,)])
        self.assertEqual(draw(((0, 3), (1, 2, 3))), ("o..o", ".ooo"))
        self.assertEqual([len(draw(PATH)), draw(STAR)[-1]], [59, "o" + "." * 58 + "o"])

    def test_no_families(self):
        for function in (write, draw):
            for value in NO_BAGS:
                check_error(self, BadBags, function, value)
            for value in NO_FAMILIES:
                check_error(self, BadFamily, function, value)


if __name__ == "__main__":
    unittest.main()
