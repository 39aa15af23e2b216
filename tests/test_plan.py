"""plan: what some periods' digging is worth today, and what is refused, in the document's order."""

import unittest
from fractions import Fraction

from openpit.planner import answers
from tests.helper import EXAMPLE, HIGHEST, Dice, above, ask, dig, fraction, number, plan, read, undo

# At a price of 10 block 4 of the example is worth 38, each of the blocks 0, 1, 2 -4, block 3 -2, block 5 -4.
ALL_FOUR = [(0, 0), (0, 1), (0, 2), (0, 4)]


def told(*calls):
    """The last answer behind the example's model."""
    return ask(read(EXAMPLE), *calls)[-1]


def worth(how_many, upper, lower):
    return (how_many, [upper, lower], b"")


def wanted(ground, near, gone, call):
    """A plan's answer straight from the words; call: price, upper, lower, most, entries."""
    price, upper, lower, most, entries = call
    if price > 1000000 or lower == 0 or lower > 1000 or upper > lower or any(one[0] >= 64 for one in entries):
        return number(-1)
    dug = set(gone)
    for place, (period, name) in enumerate(entries):
        if place > 0 and period < entries[place - 1][0]:
            return number(-3, place)
        if name >= len(near) or name in dug or not near[name] <= dug:
            return number(-3, place)
        dug.add(name)
    for period in range(64):
        if sum(ground.blocks[name][0] for when, name in entries if when == period) > most:
            return number(-6, period)
    total = sum((ground.worth(name, price)[1] * Fraction(upper, lower) ** period for period, name in entries), Fraction(0))
    return (entries[-1][0] + 1 if entries else 0, fraction(total), b"")


class WorthTodayTest(unittest.TestCase):
    def test_no_entries(self):
        self.assertEqual(told(plan(10, 1, 2, 0, [])), worth(0, 0, 1))
        self.assertEqual(answers(read(EXAMPLE) + plan(10, 0, 1, 0, [])), [1, 0, 5, 0, 2, 0, 1, 0])

    def test_one_period(self):
        self.assertEqual(told(plan(10, 1, 2, 16, ALL_FOUR)), worth(1, 26, 1))
        self.assertEqual(told(plan(4, 1, 2, 16, ALL_FOUR)), worth(1, -4, 1))
        self.assertEqual(told(plan(10, 1, 2, 4, [(0, 1)])), worth(1, -4, 1))
        self.assertEqual(answers(read(EXAMPLE) + plan(10, 1, 2, 16, ALL_FOUR)), [1, 0, 5, 1, 2, 26, 1, 0])

    def test_several_periods(self):
        self.assertEqual(told(plan(10, 1, 2, 12, [(0, 0), (0, 1), (0, 2), (1, 4)])), worth(2, -12 + 19, 1))
        self.assertEqual(told(plan(10, 1, 3, 8, [(0, 0), (1, 1), (1, 2), (2, 4)])), worth(3, -36 - 24 + 38, 9))
        self.assertEqual(told(plan(10, 2, 3, 4, [(0, 0), (1, 1), (2, 2), (3, 4)])), worth(4, -4 * 27 - 72 - 48 + 304, 27))

    def test_periods_left_out_bring_nothing(self):
        self.assertEqual(told(plan(10, 1, 2, 12, [(0, 0), (0, 1), (0, 2), (3, 4)])), worth(4, -12 * 4 + 19, 4))
        self.assertEqual(told(plan(10, 1, 2, 4, [(5, 0)])), worth(6, -1, 8))
        self.assertEqual(told(plan(10, 1, 2, 12, [(2, 0), (2, 1), (2, 2), (4, 4)])), worth(5, -24 + 19, 8))

    def test_nothing_is_worth_anything_later(self):
        """N 0: what comes in period 0 counts in full, all else not at all."""
        self.assertEqual(told(plan(10, 0, 1, 16, ALL_FOUR)), worth(1, 26, 1))
        self.assertEqual(told(plan(10, 0, 7, 12, [(0, 0), (0, 1), (0, 2), (1, 4)])), worth(2, -12, 1))
        self.assertEqual(told(plan(10, 0, 1000, 12, [(1, 0), (1, 1), (1, 2), (63, 4)])), worth(64, 0, 1))

    def test_all_is_worth_the_same_later(self):
        for rate in (1, 7, 1000):
            self.assertEqual(told(plan(10, rate, rate, 4, [(0, 0), (1, 1), (9, 2), (63, 4)])), worth(64, 26, 1))

    def test_last_period_there_may_be(self):
        self.assertEqual(told(plan(10, 1, 1000, 4, [(63, 0)])), worth(64, -1, 1000 ** 63 // 4))
        self.assertEqual(told(plan(10, 999, 1000, 4, [(63, 1)])), worth(64, -999 ** 63, 1000 ** 63 // 4))
        self.assertEqual(told(plan(10, 2, 1000, 4, [(63, 1)])), worth(64, -1, 500 ** 63 // 4))

    def test_lowest_terms_of_both_fractions(self):
        """The model's own fraction and the plan's: 5 x 2 / 6 - 1 is 2 / 3, times 3 / 9 is 2 / 9, times 3 / 4 is 1 / 2."""
        text = "pit 1 1 1\nslope 1\ncosts 0 1\nkeeps 2 6\n1:5\n"
        given = ask(read(text), plan(1, 3, 9, 1, [(1, 0)]), plan(1, 3, 4, 1, [(1, 0)]), plan(1, 3, 4, 1, [(0, 0)]),
                    plan(1, 3, 4, 1, [(2, 0)]))
        self.assertEqual(given[1:], [worth(2, 2, 9), worth(2, 1, 2), worth(1, 2, 3), worth(3, 3, 8)])

    def test_worths_that_cancel_out(self):
        text = "pit 2 1 1\nslope 1\ncosts 1 0\nkeeps 1 1\n3:0 0:2\n"
        self.assertEqual(ask(read(text), plan(3, 1, 2, 9, [(0, 0), (1, 1)]))[1], worth(2, 0, 1))

    def test_after_digs(self):
        self.assertEqual(told(dig([1, 0]), plan(10, 1, 2, 4, [(0, 2), (1, 4)])), worth(2, 15, 1))
        self.assertEqual(told(dig([1, 0]), undo(), plan(10, 1, 2, 4, [(0, 2), (1, 4)])), number(-3, 1))
        self.assertEqual(told(dig([0, 1, 2]), plan(10, 1, 2, 12, [(1, 3), (1, 4), (1, 5)])), worth(2, 16, 1))

    def test_order_within_a_period(self):
        self.assertEqual(told(plan(10, 1, 2, 99, [(1, 2), (1, 1), (1, 5), (1, 0)])), worth(2, -8, 1))

    def test_300_entries(self):
        """Of 64 blocks at most 64 can be dug, so a plan that long is refused at the first that's gone."""
        entries = [(k // 5, k % 64) for k in range(300)]
        text = "pit 8 8 1\nslope 1\ncosts 1 1\nkeeps 1 1\n" + "1:1 1:1 1:1 1:1 1:1 1:1 1:1 1:1\n" * 8
        self.assertEqual(ask(read(text), plan(10, 1, 2, 99, entries))[1], number(-3, 64))
        self.assertEqual(ask(read(text), plan(10, 1, 1, 5, entries[:64]))[1], worth(13, 8 * 64, 1))


class RefusedTest(unittest.TestCase):
    """Every refusal at its bounds."""

    def test_price(self):
        self.assertEqual(told(plan(1000000, 1, 2, 99, ALL_FOUR)), worth(1, 5000000 - 12 - 12, 1))
        for price in (1000001, HIGHEST):
            self.assertEqual(told(plan(price, 1, 2, 99, ALL_FOUR)), number(-1))
            self.assertEqual(told(plan(price, 1, 2, 99, [])), number(-1))

    def test_rate(self):
        for upper, lower in ((0, 1), (1, 1), (0, 1000), (1000, 1000), (999, 1000), (4, 5), (5, 5)):
            self.assertEqual(told(plan(10, upper, lower, 99, ALL_FOUR)), worth(1, 26, 1))
            self.assertEqual(told(plan(10, upper, lower, 99, [])), worth(0, 0, 1))
        for upper, lower in ((0, 0), (1, 0), (0, 1001), (1, 1001), (1001, 1001), (2, 1), (6, 5), (1001, 1000), (0, HIGHEST),
                             (HIGHEST, 0), (HIGHEST, HIGHEST), (HIGHEST, 1)):
            self.assertEqual(told(plan(10, upper, lower, 99, ALL_FOUR)), number(-1))
            self.assertEqual(told(plan(10, upper, lower, 99, [])), number(-1))

    def test_more_than_64_periods(self):
        self.assertEqual(told(plan(10, 1, 1, 99, [(63, 0)])), worth(64, -4, 1))
        for period in (64, 65, 1000, HIGHEST):
            self.assertEqual(told(plan(10, 1, 1, 99, [(period, 0)])), number(-1))
            self.assertEqual(told(plan(10, 1, 1, 99, [(0, 0), (period, 1)])), number(-1))

    def test_more_than_64_periods_at_any_entry(self):
        """Also where a later entry names an earlier period."""
        for place in range(4):
            for period in (64, HIGHEST):
                entries = list(ALL_FOUR)
                entries[place] = (period, entries[place][1])
                self.assertEqual(told(plan(10, 1, 2, 99, entries)), number(-1))

    def test_earlier_period_than_the_one_before_it(self):
        self.assertEqual(told(plan(10, 1, 2, 99, [(1, 0), (0, 1)])), number(-3, 1))
        self.assertEqual(told(plan(10, 1, 2, 99, [(0, 0), (63, 1), (62, 2), (61, 4)])), number(-3, 2))
        self.assertEqual(told(plan(10, 1, 2, 99, [(2, 0), (2, 1), (3, 2), (2, 4)])), number(-3, 3))

    def test_later_than_the_first_but_earlier_than_the_one_before(self):
        self.assertEqual(told(plan(10, 1, 2, 99, [(0, 0), (5, 1), (1, 2), (3, 4)])), number(-3, 2))

    def test_block_that_cannot_be_dug_in_its_turn(self):
        for entries, place in (([(0, 6)], 0), ([(0, HIGHEST)], 0), ([(0, 4)], 0), ([(0, 0), (0, 0)], 1),
                               ([(0, 0), (1, 0)], 1), ([(0, 0), (0, 1), (3, 5)], 2), ([(0, 0), (1, 1), (2, 2), (3, 64)], 3),
                               ([(0, 0), (0, 3), (0, 1)], 1)):
            self.assertEqual(told(plan(10, 1, 2, 99, entries)), number(-3, place))

    def test_blocks_that_are_gone_already(self):
        self.assertEqual(told(dig([1]), plan(10, 1, 2, 99, ALL_FOUR)), number(-3, 1))
        self.assertEqual(told(dig([0]), plan(10, 1, 2, 99, ALL_FOUR)), number(-3, 0))
        self.assertEqual(told(dig([0, 1, 2, 4]), plan(10, 1, 2, 99, [(0, 3), (1, 5), (2, 4)])), number(-3, 2))

    def test_tonnes_of_a_period(self):
        self.assertEqual(told(plan(10, 1, 2, 16, ALL_FOUR)), worth(1, 26, 1))
        self.assertEqual(told(plan(10, 1, 2, 15, ALL_FOUR)), number(-6, 0))
        self.assertEqual(told(plan(10, 1, 2, 0, [(7, 0)])), number(-6, 7))
        self.assertEqual(told(plan(10, 1, 2, HIGHEST, ALL_FOUR)), worth(1, 26, 1))

    def test_first_period_of_too_many_tonnes(self):
        entries = [(0, 0), (3, 1), (3, 2), (9, 3), (9, 4), (9, 5)]
        self.assertEqual(told(plan(10, 1, 1, 12, entries)), worth(10, 20, 1))
        self.assertEqual(told(plan(10, 1, 2, 11, entries)), number(-6, 9))
        self.assertEqual(told(plan(10, 1, 2, 8, entries)), number(-6, 9))
        self.assertEqual(told(plan(10, 1, 2, 7, entries)), number(-6, 3))
        self.assertEqual(told(plan(10, 1, 2, 4, entries)), number(-6, 3))
        self.assertEqual(told(plan(10, 1, 2, 3, entries)), number(-6, 0))

    def test_blocks_of_no_tonnes(self):
        text = "pit 2 1 1\nslope 1\ncosts 1 1\nkeeps 1 1\n0:1 1:1\n"
        given = ask(read(text), plan(2, 1, 2, 0, [(0, 0)]), plan(2, 1, 2, 0, [(0, 0), (1, 1)]))
        self.assertEqual(given[1:], [worth(1, 2, 1), number(-6, 1)])

    def test_whole_tonnes_of_the_plan_may_be_more(self):
        self.assertEqual(told(plan(10, 1, 1, 4, [(0, 0), (1, 1), (2, 2), (3, 4)])), worth(4, 26, 1))


class OrderTest(unittest.TestCase):
    """Where several refusals are due, the one told first."""

    def test_argument_before_entries(self):
        for call in (plan(1000001, 1, 2, 0, [(1, 0), (0, 9)]), plan(10, 1, 0, 0, [(1, 0), (0, 9)]),
                     plan(10, 1, 1001, 0, [(0, 4)]), plan(10, 3, 2, 0, [(0, 4)]), plan(10, 3, 2, 0, [(0, 0)]),
                     plan(10, 1, 2, 0, [(0, 4), (64, 0)]), plan(10, 1, 2, 99, [(64, 0), (0, 1)]),
                     plan(10, 1, 2, 99, [(1, 0), (0, 1), (64, 2)]), plan(10, 1, 2, 0, [(0, 0), (64, 1)])):
            self.assertEqual(told(call), number(-1))

    def test_entries_before_tonnes(self):
        self.assertEqual(told(plan(10, 1, 2, 0, [(0, 0), (1, 0)])), number(-3, 1))
        self.assertEqual(told(plan(10, 1, 2, 0, [(1, 0), (0, 1)])), number(-3, 1))
        self.assertEqual(told(plan(10, 1, 2, 3, [(0, 0), (1, 1), (2, 2), (3, 4), (4, 9)])), number(-3, 4))

    def test_step_back_and_block_at_the_same_entry(self):
        self.assertEqual(told(plan(10, 1, 2, 99, [(1, 0), (0, 4)])), number(-3, 1))
        self.assertEqual(told(plan(10, 1, 2, 99, [(0, 0), (3, 1), (2, 0)])), number(-3, 2))

    def test_step_back_before_a_block_that_cannot_be_dug(self):
        self.assertEqual(told(plan(10, 1, 2, 99, [(1, 0), (0, 1), (0, 4)])), number(-3, 1))
        self.assertEqual(told(plan(10, 1, 2, 99, [(1, 0), (0, 1), (2, 2), (3, 1)])), number(-3, 1))

    def test_block_that_cannot_be_dug_before_a_step_back(self):
        self.assertEqual(told(plan(10, 1, 2, 99, [(1, 4), (0, 1)])), number(-3, 0))
        self.assertEqual(told(plan(10, 1, 2, 99, [(1, 0), (2, 3), (2, 1), (0, 2)])), number(-3, 1))
        self.assertEqual(told(dig([2]), plan(10, 1, 2, 99, [(1, 0), (2, 2), (0, 1)])), number(-3, 1))


class ManyPlansTest(unittest.TestCase):
    def test_like_the_words(self):
        dice = Dice(61)
        seen = {}
        for k in range(1500):
            slope = (1, 5, 9)[k % 3]
            sizes = ((3, 2, 3), (4, 1, 4), (2, 2, 2))[k // 3 % 3]
            ground = dice.ground(sizes, slope, dice.roll(0, 1) == 0)
            near = above(sizes, slope)
            gone = dice.roll(0, 3) * dice.roll(0, 1)
            call = self.some_plan(dice, len(near), gone)
            answer = ask(read(ground.text()), dig(range(gone)), plan(*call))[2]
            self.assertEqual(answer, wanted(ground, near, range(gone), call), call)
            kind = min(answer[0], 0)
            seen[kind] = seen.get(kind, 0) + 1
        self.assertEqual(sorted(seen), [-6, -3, -1, 0])
        self.assertGreater(min(seen.values()), 100)

    def some_plan(self, dice, how_many, gone):
        """Mostly in an order in which all can go, mostly with rising periods."""
        period = 0
        entries = []
        for name in range(gone, dice.roll(gone, how_many)):
            period = period + dice.roll(0, 4) * dice.roll(0, 1)
            fault = dice.roll(0, 59)
            entries.append((max(period - (fault == 0), 0), dice.roll(0, how_many) if fault == 1 else name))
        lower = dice.roll(1, 1000) if dice.roll(0, 2) else dice.roll(0, 4)
        upper = dice.roll(0, lower) + (dice.roll(0, 14) == 0)
        price = dice.roll(0, 40) if dice.roll(0, 1) else dice.roll(0, 1010000)
        return price, upper, lower, dice.roll(0, 20) if dice.roll(0, 1) else dice.roll(0, 99999), entries


if __name__ == "__main__":
    unittest.main()
