"""Promises 1 and 2: shells, and the least price of a block."""

import time
import unittest

from openpit.planner import answers
from tests.helper import EXAMPLE, HIGHEST, Dice, Ground, above, ask, dig, from_price, least_best_set, lying_over
from tests.helper import number, pit, places, read, shells, undo

SIZES = ((1, 1, 1), (1, 1, 6), (5, 1, 2), (3, 1, 3), (2, 2, 3), (3, 3, 2), (4, 4, 4), (8, 8, 1), (8, 1, 6), (2, 5, 6))


def one_block(tonnes, metal, costs="0 0", keeps="1 1"):
    return "pit 1 1 1\nslope 1\ncosts %s\nkeeps %s\n%d:%d\n" % (costs, keeps, tonnes, metal)


def some_ground(dice, sizes, slope, kind):
    """A model: of small numbers, of all sizes, or with the metal below a costly surface."""
    if kind < 2:
        return dice.ground(sizes, slope, kind == 0)
    blocks = [(dice.roll(1, 9), dice.roll(0, 1) * dice.roll(1, 9) * z * z) for x, y, z in places(sizes)]
    return Ground(sizes, slope, (3, 1), (2, 3), blocks)


class ShellsTest(unittest.TestCase):
    def test_example(self):
        self.assertEqual(ask(read(EXAMPLE), shells([10, 4]))[1], (2, [4, 26, 1, 0, 0, 1], b""))
        self.assertEqual(answers(read(EXAMPLE) + shells([10])), [1, 0, 6, 1, 3, 4, 26, 1, 0])

    def test_fractions(self):
        text = one_block(1, 5, "0 1", "2 6")
        self.assertEqual(ask(read(text), shells([3, 2, 1, 0]))[1], (4, [1, 4, 1, 1, 7, 3, 1, 2, 3, 0, 0, 1], b""))

    def test_of_no_prices(self):
        self.assertEqual(answers(read(EXAMPLE) + shells([])), [1, 0, 1, 0])

    def test_eight_prices_and_nine(self):
        given = ask(read(EXAMPLE), shells([10] * 8), shells([10] * 9), shells([10] * 1000), shells(range(8)))
        self.assertEqual(given[1:], [(8, [4, 26, 1] * 8, b""), number(-1), number(-1),
                                     (8, [0, 0, 1] * 5 + [4, 1, 1, 4, 6, 1, 4, 11, 1], b"")])

    def test_highest_price_at_each_place(self):
        highest = ask(read(EXAMPLE), pit(1000000))[1]
        for how_many in range(1, 9):
            for place in range(how_many):
                prices = [4] * how_many
                prices[place] = 1000000
                wanted = [0, 0, 1] * how_many
                wanted[3 * place:3 * place + 3] = [highest[0]] + highest[1][:2]
                self.assertEqual(ask(read(EXAMPLE), shells(prices))[1], (how_many, wanted, b""))
                for price in (1000001, HIGHEST):
                    prices[place] = price
                    self.assertEqual(ask(read(EXAMPLE), shells(prices))[1], number(-1))

    def test_nine_prices_of_which_one_is_too_high(self):
        self.assertEqual(ask(read(EXAMPLE), shells([4] * 8 + [1000001]))[1], number(-1))

    def test_counts_and_worths_are_those_of_pit(self):
        dice = Dice(41)
        for sizes in SIZES:
            for slope in (1, 5, 9):
                for kind in range(3):
                    ground = some_ground(dice, sizes, slope, kind)
                    self.like_pit(dice, read(ground.text()))
                    self.like_pit(dice, read(ground.text()) + dig(range(dice.roll(1, len(ground.blocks)))))

    def like_pit(self, dice, before):
        """In no order, and one of them twice."""
        prices = [dice.roll(0, 30) if dice.roll(0, 1) else dice.roll(0, 1000000) for k in range(dice.roll(1, 7))]
        prices.append(prices[dice.roll(0, len(prices) - 1)])
        given = ask(before, shells(prices), *[pit(price) for price in prices])[-len(prices) - 1:]
        wanted = [one for how_many, numbers, text in given[1:] for one in [how_many] + numbers[:2]]
        self.assertEqual(given[0], (len(prices), wanted, b""))


class FromTest(unittest.TestCase):
    def told(self, before, sizes):
        """Of each block its price, None where it is refused with -5, and the refusal -4 where it is gone."""
        found = []
        how_many = sizes[0] * sizes[1] * sizes[2]
        for answer in ask(before, *[from_price(*place) for place in places(sizes)])[-how_many:]:
            if answer[0] == 0:
                self.assertEqual((len(answer[1]), answer[2]), (1, b""))
                found.append(answer[1][0])
            else:
                self.assertIn(answer, (number(-5), number(-4)))
                found.append(None if answer == number(-5) else -4)
        return found

    def test_example(self):
        self.assertEqual(self.told(read(EXAMPLE), (3, 1, 2)), [5, 5, 5, 13, 5, 25])
        self.assertEqual(answers(read(EXAMPLE) + from_price(2, 0, 1)), [1, 0, 4, 0, 1, 25, 0])

    def test_lowest_price(self):
        """At a price of 0 no block is worth more than 0, so the pit is empty then and 1 is the least price told."""
        text = one_block(7, 1, "0 0", "1 1000")
        self.assertEqual(ask(read(text), from_price(0, 0, 0), pit(0), pit(1))[1:],
                         [(0, [1], b""), (0, [0, 1], b""), (1, [1, 1000, 0], b"")])

    def test_highest_price(self):
        """999 tonnes at 1001 cost 999,999."""
        text = one_block(999, 1, "0 1001")
        self.assertEqual(ask(read(text), from_price(0, 0, 0), pit(999999), pit(1000000))[1:],
                         [(0, [1000000], b""), (0, [0, 1], b""), (1, [1, 1, 0], b"")])
        self.assertEqual(ask(read(one_block(999, 1, "1001 0")), from_price(0, 0, 0))[1], (0, [1000000], b""))

    def test_none_up_to_the_highest_price(self):
        for text in (one_block(1000, 1, "0 1000"), one_block(1000, 1, "1000 0"), one_block(0, 0), one_block(9, 0),
                     one_block(1, 5, "1 1", "0 1"), one_block(9999, 99, "9999 9999", "1 1000")):
            self.assertEqual(ask(read(text), from_price(0, 0, 0))[1], number(-5), text)

    def test_price_at_which_it_is_just_even(self):
        """Worth as much as it costs it isn't in the pit yet."""
        given = ask(read(one_block(10, 1, "0 7")), from_price(0, 0, 0), pit(70), pit(71))
        self.assertEqual(given[1:], [(0, [71], b""), (0, [0, 1], b""), (1, [1, 1, 0], b"")])

    def test_block_that_is_gone(self):
        given = ask(read(EXAMPLE), dig([0, 1]), from_price(0, 0, 0), from_price(1, 0, 0), from_price(2, 0, 0), undo(),
                    from_price(0, 0, 0))
        self.assertEqual(given[2:], [number(-4), number(-4), (0, [4], b""), number(2), (0, [5], b"")])

    def test_block_that_is_gone_and_would_never_be_in_the_pit(self):
        self.assertEqual(ask(read(one_block(1, 0)), dig([0]), from_price(0, 0, 0), undo(), from_price(0, 0, 0))[2:],
                         [number(-4), number(1), number(-5)])

    def test_places_that_there_are_not(self):
        for place in ((3, 0, 0), (0, 1, 0), (0, 0, 2), (3, 1, 2), (HIGHEST, 0, 0), (0, HIGHEST, 0), (0, 0, HIGHEST)):
            self.assertEqual(ask(read(EXAMPLE), from_price(*place), dig([0, 1, 2]), from_price(*place))[1::2],
                             [number(-1)] * 2)

    def test_cheaper_once_what_lies_over_is_gone(self):
        self.assertEqual(self.told(read(EXAMPLE) + dig([1]), (3, 1, 2)), [5, -4, 5, 13, 5, 25])
        self.assertEqual(self.told(read(EXAMPLE) + dig([2, 1, 0]), (3, 1, 2)), [-4, -4, -4, 13, 3, 25])

    def test_in_the_pit_at_this_price_and_not_at_one_less(self):
        dice = Dice(42)
        for sizes in SIZES:
            for slope in (1, 5, 9):
                for kind in range(3):
                    ground = some_ground(dice, sizes, slope, kind)
                    how_many = len(ground.blocks)
                    self.like_pit(read(ground.text()), sizes)
                    self.like_pit(read(ground.text()) + dig(range(dice.roll(1, how_many))), sizes)

    def like_pit(self, before, sizes):
        told = self.told(before, sizes)
        prices = sorted({1000000} | {one - less for one in told if one not in (None, -4) for less in (0, 1)})
        given = ask(before, *[pit(price) for price in prices])[-len(prices):]
        pits = {price: numbers[2:] for price, (how_many, numbers, text) in zip(prices, given)}
        for block, one in enumerate(told):
            if one is None or one == -4:
                self.assertNotIn(block, pits[1000000])
            else:
                self.assertTrue(1 <= one <= 1000000)
                self.assertIn(block, pits[one])
                self.assertNotIn(block, pits[one - 1])

    def test_no_lower_price_at_all(self):
        """Looked for from 0 on, price by price, by the tests' own pits."""
        dice = Dice(43)
        for sizes in ((3, 1, 3), (2, 2, 3), (3, 3, 2), (3, 2, 4)):
            for slope in (1, 5, 9):
                near = above(sizes, slope)
                ground = some_ground(dice, sizes, slope, 2 * dice.roll(0, 1))
                pits = [least_best_set(near, ground.worths(price))[1] for price in range(40)]
                for block, one in enumerate(self.told(read(ground.text()), sizes)):
                    wanted = [price for price in range(40) if block in pits[price]]
                    self.assertEqual(wanted[:1], [one] if one is not None and one < 40 else [])

    def test_at_least_that_of_what_lies_over(self):
        dice = Dice(44)
        for sizes in SIZES:
            for slope in (1, 5, 9):
                for kind in range(3):
                    ground = some_ground(dice, sizes, slope, kind)
                    gone = dice.roll(0, len(ground.blocks))
                    told = self.told(read(ground.text()) + dig(range(gone)), sizes)
                    self.assertEqual([one == -4 for one in told], [block < gone for block in range(len(told))])
                    # One that is in no pit counts as dearer than all that are.
                    dear = [1000001 if one is None else one for one in told]
                    for block, whole in enumerate(lying_over(sizes, slope)):
                        for other in whole:
                            if block >= gone and other >= gone:
                                self.assertGreaterEqual(dear[block], dear[other])


class RisingPricesTest(unittest.TestCase):
    def test_pits_lie_one_in_another_after_digs(self):
        dice = Dice(45)
        for sizes in SIZES:
            for slope in (1, 5, 9):
                for kind in range(3):
                    ground = some_ground(dice, sizes, slope, kind)
                    gone = dice.roll(1, len(ground.blocks))
                    prices = range(0, 30000, 1000) if kind == 1 else range(30)
                    given = ask(read(ground.text()), dig(range(gone)), *[pit(price) for price in prices])[2:]
                    for lower, higher in zip(given, given[1:]):
                        self.assertLessEqual(set(lower[1][2:]), set(higher[1][2:]))
                    for how_many, numbers, text in given:
                        self.assertEqual(set(numbers[2:]) & set(range(gone)), set())


class TimeTest(unittest.TestCase):
    """A list of 400 calls on 64 blocks is answered in seconds."""

    def soon(self, calls):
        begin = time.monotonic()
        given = ask(*calls)
        self.assertLess(time.monotonic() - begin, 20)
        self.assertEqual(len(given), 400)

    def test_prices_of_blocks(self):
        for kind in range(3):
            ground = some_ground(Dice(46), (4, 4, 4), 9, kind)
            self.soon([read(ground.text())] + [from_price(*places((4, 4, 4))[k % 64]) for k in range(399)])

    def test_prices_of_blocks_with_digs_between(self):
        ground = some_ground(Dice(47), (4, 4, 4), 9, 2)
        rounds = [call for k in range(133) for call in (dig([k % 16]), from_price(k % 4, k // 4 % 4, 3), undo())]
        self.soon([read(ground.text())] + rounds)

    def test_shells_of_eight_prices(self):
        dice = Dice(48)
        for kind in range(3):
            ground = some_ground(dice, (4, 4, 4), 9, kind)
            self.soon([read(ground.text())] + [shells([dice.roll(0, 3000) for j in range(8)]) for k in range(399)])


if __name__ == "__main__":
    unittest.main()
