"""Promises 1 and 2: the pit."""

import time
import unittest
from fractions import Fraction
from math import gcd

from tests.helper import EXAMPLE, Dice, Ground, above, ask, least_best_set, number, pit, places, read

SMALL_SIZES = ((1, 1, 1), (1, 1, 6), (5, 1, 2), (1, 5, 2), (3, 1, 3), (4, 1, 3), (1, 4, 3), (2, 2, 3), (3, 2, 2),
               (2, 3, 2), (2, 1, 6), (3, 3, 1))
LARGE_SIZES = ((4, 4, 4), (8, 8, 1), (8, 4, 2), (8, 1, 6), (2, 5, 6), (3, 3, 6), (3, 7, 3))
SMALL_PRICES = (0, 1, 2, 3, 4, 6, 9, 15, 1000000)
PRICES = (0, 1, 500, 2500, 10000, 60000, 1000000)


def closed_sets(sizes, slope):
    """All sets of blocks that can go, as bits."""
    near = [sum(1 << k for k in some) for some in above(sizes, slope)]
    return [some for some in range(1 << len(near))
            if all(near[k] & ~some == 0 for k in range(len(near)) if some >> k & 1)]


def best_sets(closed, worths):
    """The most that a set is worth, and the sets that are worth it."""
    sums = [Fraction(0)]
    for one in worths:
        sums = sums + [before + one for before in sums]
    most = max(sums[some] for some in closed)
    return most, [some for some in closed if sums[some] == most]


class PitTest(unittest.TestCase):
    def told_pits(self, ground, prices):
        """Of each price (the pit's blocks, its worth), its form looked at."""
        found = []
        given = ask(read(ground.text()), *[pit(price) for price in prices])
        self.assertEqual(given[0], number(0))
        for how_many, numbers, text in given[1:]:
            blocks = numbers[2:]
            self.assertEqual(how_many, len(blocks))
            self.assertEqual(blocks, sorted(set(blocks)))
            self.assertEqual(text, b"")
            self.assertGreater(numbers[1], 0)
            self.assertEqual(gcd(numbers[0], numbers[1]), 1)
            found.append((blocks, Fraction(numbers[0], numbers[1])))
        return found

    def test_example(self):
        for slope in ("5", "9"):
            text = EXAMPLE.replace("slope 5", "slope " + slope)
            given = ask(read(text), pit(10), pit(4))
            self.assertEqual(given, [number(0), (4, [26, 1, 0, 1, 2, 4], b""), (0, [0, 1], b"")])

    def test_example_of_a_steep_slope(self):
        text = EXAMPLE.replace("slope 5", "slope 1")
        self.assertEqual(ask(read(text), pit(10), pit(4))[1:], [(2, [34, 1, 1, 4], b""), (2, [4, 1, 1, 4], b"")])

    def test_worth_is_a_fraction_in_lowest_terms(self):
        text = "pit 1 1 1\nslope 1\ncosts 0 1\nkeeps 2 6\n1:5\n"
        self.assertEqual(ask(read(text), pit(1), pit(3), pit(2))[1:],
                         [(1, [2, 3, 0], b""), (1, [4, 1, 0], b""), (1, [7, 3, 0], b"")])

    def test_what_adds_nothing_stays(self):
        """A block of worth 0, and one that just pays for what lies over it, are not of the least set."""
        nothing = "pit 2 1 1\nslope 1\ncosts 0 0\nkeeps 1 1\n5:0 0:0\n"
        even = "pit 1 1 2\nslope 1\ncosts 1 0\nkeeps 1 1\n7:0\n3:10\n"
        self.assertEqual(ask(read(nothing), pit(9))[1], (0, [0, 1], b""))
        self.assertEqual(ask(read(even), pit(1), pit(2))[1:], [(0, [0, 1], b""), (2, [10, 1, 0, 1], b"")])

    def test_two_pay_together_for_what_lies_over_both(self):
        text = "pit 2 1 2\nslope 5\ncosts 1 0\nkeeps 1 1\n5:0 5:0\n0:6 0:5\n"
        self.assertEqual(ask(read(text), pit(1))[1], (4, [1, 1, 0, 1, 2, 3], b""))

    def test_what_two_share_falls_to_the_one_that_is_dug(self):
        """Block 10 has 4 and lies under 0, 1, 2, 4; block 12 has 17 and lies under 0, 3, 4, 6: alone it is worth 1."""
        surface = "4:0 4:0 4:0\n" * 3
        text = "pit 3 3 2\nslope 5\ncosts 1 0\nkeeps 1 1\n" + surface + "0:0 0:4 0:0\n0:17 0:0 0:0\n0:0 0:0 0:0\n"
        self.assertEqual(ask(read(text), pit(1))[1], (5, [1, 1, 0, 3, 4, 6, 12], b""))
        self.assertEqual(ask(read(text.replace("0:17", "0:16")), pit(1))[1], (0, [0, 1], b""))

    def test_no_set_is_worth_more_and_the_pit_lies_in_each_that_is_worth_as_much(self):
        dice = Dice(1)
        for sizes in SMALL_SIZES:
            for slope in (1, 5, 9):
                closed = closed_sets(sizes, slope)
                for small in (True, True, True, False, False):
                    ground = dice.ground(sizes, slope, small)
                    prices = SMALL_PRICES if small else PRICES
                    for price, told in zip(prices, self.told_pits(ground, prices)):
                        with self.subTest(text=ground.text(), price=price):
                            self.look_at_pit(closed, ground.worths(price), told)

    def look_at_pit(self, closed, worths, told):
        blocks, worth = told
        mask = sum(1 << k for k in blocks)
        most, best = best_sets(closed, worths)
        self.assertEqual(worth, most)
        self.assertIn(mask, best)
        for some in best:
            self.assertEqual(mask & ~some, 0)

    def test_large_models(self):
        dice = Dice(2)
        for sizes in LARGE_SIZES:
            for slope in (1, 5, 9):
                near = above(sizes, slope)
                for small in (True, False):
                    ground = dice.ground(sizes, slope, small)
                    prices = (2, 5) if small else (900, 5000)
                    for price, told in zip(prices, self.told_pits(ground, prices)):
                        with self.subTest(text=ground.text(), price=price):
                            most, least = least_best_set(near, ground.worths(price))
                            self.assertEqual(told, (least, most))

    def test_large_models_where_few_pay_for_many(self):
        dice = Dice(3)
        for sizes in LARGE_SIZES:
            for slope in (5, 9):
                near = above(sizes, slope)
                blocks = [(dice.roll(1, 9), dice.roll(0, 1) * dice.roll(1, 9) * z * z) for x, y, z in places(sizes)]
                ground = Ground(sizes, slope, (3, 1), (2, 3), blocks)
                prices = tuple(range(1, 12))
                for price, told in zip(prices, self.told_pits(ground, prices)):
                    with self.subTest(text=ground.text(), price=price):
                        most, least = least_best_set(near, ground.worths(price))
                        self.assertEqual(told, (least, most))

    def test_four_hundred_calls_are_answered_soon(self):
        dice = Dice(4)
        ground = dice.ground((4, 4, 4), 9, False)
        begin = time.monotonic()
        told = self.told_pits(ground, [k * 100 for k in range(399)])
        self.assertEqual(len(told), 399)
        self.assertLess(time.monotonic() - begin, 20)

    def test_pits_lie_one_in_another(self):
        dice = Dice(5)
        for sizes in SMALL_SIZES + LARGE_SIZES:
            for slope in (1, 5, 9):
                for small in (True, False):
                    ground = dice.ground(sizes, slope, small)
                    prices = range(30) if small else range(0, 30000, 1000)
                    told = self.told_pits(ground, prices)
                    for lower, higher in zip(told, told[1:]):
                        self.assertLessEqual(set(lower[0]), set(higher[0]))
                        self.assertLessEqual(lower[1], higher[1])

    def test_pits_grow_at_all(self):
        given = ask(read(EXAMPLE), *[pit(price) for price in (0, 4, 5, 10, 12, 100, 1000000)])[1:]
        self.assertEqual([answer[0] for answer in given], [0, 0, 4, 4, 4, 6, 6])


class PriceTest(unittest.TestCase):
    def test_highest_price(self):
        given = ask(read(EXAMPLE), pit(1000000), pit(1000001), pit(4294967295))
        self.assertEqual(given[1:], [(6, [6499952, 1, 0, 1, 2, 3, 4, 5], b""), number(-1), number(-1)])


if __name__ == "__main__":
    unittest.main()
