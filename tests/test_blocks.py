"""What is told of blocks: block, value, worth; and promise 4, what lies over a block."""

import unittest
from fractions import Fraction

from tests.helper import EXAMPLE, HIGHEST, Dice, above, ask, block, lying_over, number, over, pit, places, read
from tests.helper import value, worth, write

SIZES = ((1, 1, 1), (3, 1, 2), (1, 3, 3), (3, 3, 3), (8, 8, 1), (4, 4, 4), (2, 5, 6), (8, 1, 6), (5, 3, 4))


def flat(sizes, slope):
    cells = " ".join(["1:1"] * sizes[0]) + "\n"
    return "pit %d %d %d\nslope %d\ncosts 1 1\nkeeps 1 1\n" % (sizes + (slope,)) + cells * sizes[1] * sizes[2]


def wrong_places(sizes):
    """Places just beyond the model, and far beyond, in each direction alone and in all."""
    found = [(sizes[0], 0, 0), (0, sizes[1], 0), (0, 0, sizes[2]), sizes]
    return found + [(HIGHEST, 0, 0), (0, HIGHEST, 0), (0, 0, HIGHEST), (HIGHEST, HIGHEST, HIGHEST)]


class OverTest(unittest.TestCase):
    def told_over(self, text, place):
        how_many, numbers, rest = ask(read(text), over(*place))[1]
        self.assertEqual((how_many, rest), (len(numbers), b""))
        return numbers

    def test_middle_of_a_model(self):
        self.assertEqual(self.told_over(flat((3, 3, 2), 1), (1, 1, 1)), [4])
        self.assertEqual(self.told_over(flat((3, 3, 2), 5), (1, 1, 1)), [1, 3, 4, 5, 7])
        self.assertEqual(self.told_over(flat((3, 3, 2), 9), (1, 1, 1)), [0, 1, 2, 3, 4, 5, 6, 7, 8])

    def test_edges_of_a_model(self):
        self.assertEqual(self.told_over(flat((3, 3, 2), 5), (0, 0, 1)), [0, 1, 3])
        self.assertEqual(self.told_over(flat((3, 3, 2), 9), (0, 0, 1)), [0, 1, 3, 4])
        self.assertEqual(self.told_over(flat((3, 3, 2), 5), (2, 2, 1)), [5, 7, 8])
        self.assertEqual(self.told_over(flat((3, 3, 2), 9), (2, 2, 1)), [4, 5, 7, 8])
        self.assertEqual(self.told_over(flat((3, 3, 2), 5), (2, 0, 1)), [1, 2, 5])
        self.assertEqual(self.told_over(flat((3, 3, 2), 9), (0, 1, 1)), [0, 1, 3, 4, 6, 7])

    def test_several_levels(self):
        self.assertEqual(self.told_over(flat((5, 1, 3), 1), (2, 0, 2)), [2, 7])
        self.assertEqual(self.told_over(flat((5, 1, 3), 5), (2, 0, 2)), [0, 1, 2, 3, 4, 6, 7, 8])
        self.assertEqual(self.told_over(flat((5, 1, 3), 9), (0, 0, 2)), [0, 1, 2, 5, 6])

    def test_surface_has_none(self):
        for slope in (1, 5, 9):
            self.assertEqual(ask(read(flat((3, 3, 2), slope)), over(1, 1, 0), over(0, 2, 0))[1:], [number(0)] * 2)

    def test_each_block_of_many_models(self):
        for sizes in SIZES:
            for slope in (1, 5, 9):
                given = ask(read(flat(sizes, slope)), *[over(*place) for place in places(sizes)])[1:]
                for answer, wanted in zip(given, lying_over(sizes, slope), strict=True):
                    self.assertEqual(answer, (len(wanted), sorted(wanted), b""))

    def test_what_lies_over_a_block_is_what_must_go_before_it(self):
        """A block can go behind all that is told as over it, and not if one of these is left out."""
        sizes = (3, 2, 3)
        for slope in (1, 5, 9):
            text = flat(sizes, slope)
            for name, place in enumerate(places(sizes)):
                before = self.told_over(text, place)
                self.assertEqual(ask(read(text), worth(0, before + [name]))[1][0], 0)
                for k in range(len(before)):
                    fewer = before[:k] + before[k + 1:]
                    self.assertEqual(ask(read(text), worth(0, fewer + [name]))[1][0], -3)

    def test_places_that_there_are_not(self):
        for place in wrong_places((3, 1, 2)):
            self.assertEqual(ask(read(EXAMPLE), over(*place))[1], number(-1))


class BlockTest(unittest.TestCase):
    def test_number_tonnes_and_metal(self):
        text = "pit 2 2 2\nslope 1\ncosts 0 0\nkeeps 0 1\n1:2 3:4\n5:6 7:8\n9:10 11:12\n9999:99999 0:0\n"
        given = ask(read(text), *[block(*place) for place in places((2, 2, 2))])[1:]
        wanted = [(1, 2), (3, 4), (5, 6), (7, 8), (9, 10), (11, 12), (9999, 99999), (0, 0)]
        self.assertEqual(given, [(0, [k, t, m, 0], b"") for k, (t, m) in enumerate(wanted)])

    def test_sides_of_differing_lengths(self):
        for sizes in SIZES:
            given = ask(read(flat(sizes, 5)), *[block(*place) for place in places(sizes)])[1:]
            self.assertEqual(given, [(0, [k, 1, 1, 0], b"") for k in range(len(given))])

    def test_places_that_there_are_not(self):
        for sizes in SIZES:
            given = ask(read(flat(sizes, 1)), *[block(*place) for place in wrong_places(sizes)])[1:]
            self.assertEqual(given, [number(-1)] * len(given))


class ValueTest(unittest.TestCase):
    def test_example(self):
        given = ask(read(EXAMPLE), value(1, 0, 1, 10), value(1, 0, 0, 10), value(0, 0, 1, 10))
        self.assertEqual(given[1:], [(1, [38, 1], b""), (0, [-4, 1], b""), (1, [-2, 1], b"")])

    def test_milled_only_if_that_is_more(self):
        given = ask(read(EXAMPLE), value(0, 0, 1, 8), value(0, 0, 1, 9), value(0, 0, 1, 7))
        self.assertEqual(given[1:], [(0, [-4, 1], b""), (1, [-3, 1], b""), (0, [-4, 1], b"")])

    def test_fractions_in_lowest_terms(self):
        text = "pit 1 1 1\nslope 1\ncosts 2 1\nkeeps 6 9\n1:1\n"
        given = ask(read(text), value(0, 0, 0, 0), value(0, 0, 0, 1), value(0, 0, 0, 2), value(0, 0, 0, 5))
        self.assertEqual(given[1:], [(0, [-2, 1], b""), (0, [-2, 1], b""), (1, [-5, 3], b""), (1, [1, 3], b"")])

    def test_nothing_is_0_and_1(self):
        text = "pit 1 1 1\nslope 1\ncosts 2 1\nkeeps 500 1000\n0:3\n"
        self.assertEqual(ask(read(text), value(0, 0, 0, 0))[1], (0, [0, 1], b""))

    def test_greatest_numbers(self):
        text = "pit 1 1 1\nslope 1\ncosts 9999 9999\nkeeps 1000 1000\n9999:99999\n"
        self.assertEqual(ask(read(text), value(0, 0, 0, 1000000), value(0, 0, 0, 0))[1:],
                         [(1, [99999000000 - 2 * 9999 * 9999, 1], b""), (0, [-9999 * 9999, 1], b"")])

    def test_price_and_place(self):
        given = ask(read(EXAMPLE), value(0, 0, 0, 1000000), value(0, 0, 0, 1000001), value(0, 0, 0, HIGHEST))
        self.assertEqual(given[1:], [(0, [-4, 1], b""), number(-1), number(-1)])
        for place in wrong_places((3, 1, 2)):
            self.assertEqual(ask(read(EXAMPLE), value(*place, 10), value(*place, HIGHEST))[1:], [number(-1)] * 2)

    def test_many(self):
        dice = Dice(11)
        for small in (True, False):
            ground = dice.ground((4, 2, 3), 5, small)
            for price in (0, 1, 2, 3, 7, 999, 1000000):
                given = ask(read(ground.text()), *[value(*place, price) for place in places((4, 2, 3))])[1:]
                for k, answer in enumerate(given):
                    milled, wanted = ground.worth(k, price)
                    self.assertEqual(answer, (milled, [wanted.numerator, wanted.denominator], b""))


class WorthTest(unittest.TestCase):
    def test_example(self):
        given = ask(read(EXAMPLE), worth(10, [0, 1, 2, 4]), worth(10, [2, 0, 1, 4]), worth(10, [1]), worth(4, [1, 0, 3]))
        self.assertEqual(given[1:], [(0, [26, 1], b""), (0, [26, 1], b""), (0, [-4, 1], b""), (0, [-12, 1], b"")])

    def test_of_none(self):
        self.assertEqual(ask(read(EXAMPLE), worth(10, []))[1], (0, [0, 1], b""))

    def test_a_block_that_there_is_not(self):
        given = ask(read(EXAMPLE), worth(10, [6]), worth(10, [0, HIGHEST]), worth(10, [0, 1, 64, 5]))
        self.assertEqual(given[1:], [number(-3, 0), number(-3, 1), number(-3, 2)])

    def test_a_block_named_twice(self):
        given = ask(read(EXAMPLE), worth(10, [0, 0]), worth(10, [0, 1, 2, 4, 1, 9]))
        self.assertEqual(given[1:], [number(-3, 1), number(-3, 4)])

    def test_a_block_that_cannot_go_in_its_turn(self):
        given = ask(read(EXAMPLE), worth(10, [4]), worth(10, [0, 1, 4, 2]), worth(10, [1, 3, 0]), worth(10, [1, 2, 5]))
        self.assertEqual(given[1:], [number(-3, 0), number(-3, 2), number(-3, 1), (0, [-12, 1], b"")])

    def test_price(self):
        given = ask(read(EXAMPLE), worth(1000000, [0]), worth(1000001, [0]), worth(HIGHEST, []))
        self.assertEqual(given[1:], [(0, [-4, 1], b""), number(-1), number(-1)])

    def test_wrong_price_is_told_before_a_wrong_block(self):
        self.assertEqual(ask(read(EXAMPLE), worth(1000001, [4]))[1], number(-1))

    def test_longest_list(self):
        given = ask(read(EXAMPLE), worth(10, [0, 1, 2, 3, 4, 5] + [6] * 994), worth(10, [HIGHEST] * 1000))
        self.assertEqual(given[1:], [number(-3, 6), number(-3, 0)])

    def test_first_that_cannot_go_in_many_lists(self):
        dice = Dice(12)
        sizes = (3, 2, 3)
        for slope in (1, 5, 9):
            near = above(sizes, slope)
            ground = dice.ground(sizes, slope, False)
            for k in range(300):
                # Mostly in the order of the numbers, in which all can go, so that faults come late too.
                blocks = [dice.roll(0, 18) if dice.roll(0, 9) == 0 else name for name in range(dice.roll(0, 18))]
                self.assertEqual(ask(read(ground.text()), worth(77, blocks))[1], self.wanted(ground, near, blocks))

    def wanted(self, ground, near, blocks):
        for k, name in enumerate(blocks):
            if name >= len(near) or name in blocks[:k] or not near[name] <= set(blocks[:k]):
                return number(-3, k)
        total = sum([ground.worth(name, 77)[1] for name in blocks], Fraction(0))
        return (0, [total.numerator, total.denominator], b"")


class AsksChangeNothingTest(unittest.TestCase):
    """Neither a call that asks nor one that is refused changes what the calls behind it tell (promise 6)."""

    def state(self):
        calls = write() + pit(10) + pit(40) + worth(10, [0, 1, 2, 4])
        for place in places((3, 1, 2)):
            calls = calls + block(*place) + value(*place, 9) + over(*place)
        return calls

    def test_nothing_is_changed(self):
        wanted = ask(read(EXAMPLE), self.state())
        between = [write(), block(0, 0, 0), value(0, 0, 0, 1), over(0, 0, 1), pit(10), worth(10, [0, 1, 2, 4]),
                   block(3, 0, 0), value(0, 1, 0, 1), value(0, 0, 0, 1000001), over(0, 0, 2), pit(1000001),
                   worth(1000001, [0]), worth(10, [0, 1, 5]), worth(10, [0, 0]), worth(10, [0, 1, 2, 6])]
        for calls in between:
            given = ask(read(EXAMPLE), calls, self.state())
            self.assertEqual(given[:1] + given[2:], wanted)


if __name__ == "__main__":
    unittest.main()
