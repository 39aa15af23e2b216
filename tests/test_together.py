"""All calls together: long lists of calls against slow answers of the tests' own, straight from the words."""

import unittest
from fractions import Fraction

from tests.helper import Dice, above, ask, block, dig, dug, fraction, from_price, least_best_set, lying_over, number, over
from tests.helper import pit, places, plan, read, shells, undo, value, worth, write

HIGHEST_PRICE = 1000000


class Slow:
    """A model with what's gone of it, as a list of the digs that can be taken back."""

    def __init__(self, ground):
        self.ground = ground
        self.places = places(ground.sizes)
        self.near = above(ground.sizes, ground.slope)
        self.whole = lying_over(ground.sizes, ground.slope)
        self.digs = []

    def gone(self):
        return {name for one in self.digs for name in one}

    def pit(self, price):
        gone = self.gone()
        worths = [0 if name in gone else one for name, one in enumerate(self.ground.worths(price))]
        return least_best_set([some - gone for some in self.near], worths)

    def total(self, names, price):
        return fraction(sum((self.ground.worth(name, price)[1] for name in names), Fraction(0)))

    def stuck(self, names):
        dug_now = self.gone()
        for place, name in enumerate(names):
            if name >= len(self.near) or name in dug_now or not self.near[name] <= dug_now:
                return number(-3, place)
            dug_now.add(name)
        return None

    def write(self):
        data = self.ground.text().encode()
        return (len(data), [], data)

    def block(self, place):
        if place not in self.places:
            return number(-1)
        name = self.places.index(place)
        return (0, [name] + list(self.ground.blocks[name]) + [int(name in self.gone())], b"")

    def value(self, place, price):
        if place not in self.places or price > HIGHEST_PRICE:
            return number(-1)
        milled, one = self.ground.worth(self.places.index(place), price)
        return (milled, fraction(one), b"")

    def over(self, place):
        if place not in self.places:
            return number(-1)
        found = sorted(self.whole[self.places.index(place)] - self.gone())
        return (len(found), found, b"")

    def pit_answer(self, price):
        if price > HIGHEST_PRICE:
            return number(-1)
        most, least = self.pit(price)
        return (len(least), fraction(most) + least, b"")

    def shells(self, prices):
        if len(prices) > 8 or any(price > HIGHEST_PRICE for price in prices):
            return number(-1)
        pits = [self.pit(price) for price in prices]
        return (len(prices), [one for most, least in pits for one in [len(least)] + fraction(most)], b"")

    def worth(self, price, names):
        if price > HIGHEST_PRICE:
            return number(-1)
        return self.stuck(names) or (0, self.total(names, price), b"")

    def from_price_fits(self, place, answer):
        """True if this is the least price, or the refusal that's due."""
        if place not in self.places:
            return answer == number(-1)
        name = self.places.index(place)
        if name in self.gone():
            return answer == number(-4)
        if name not in self.pit(HIGHEST_PRICE)[1]:
            return answer == number(-5)
        price = answer[1][0]
        return (answer == number(0, price) and name in self.pit(price)[1]
                and (price == 0 or name not in self.pit(price - 1)[1]))

    def dig(self, names):
        refused = self.stuck(names)
        if refused is None and names:
            self.digs.append(names)
        return refused or number(len(names))

    def undo(self):
        return number(len(self.digs.pop())) if self.digs else number(-5)

    def dug(self, price):
        if price > HIGHEST_PRICE:
            return number(-1)
        names = self.gone()
        sums = [sum(self.ground.blocks[name][k] for name in names) for k in (0, 1)]
        return (len(names), sums + self.total(names, price), b"")

    def plan(self, price, upper, lower, most, entries):
        if price > HIGHEST_PRICE or not 1 <= lower <= 1000 or upper > lower:
            return number(-1)
        if any(period > 63 for period, name in entries):
            return number(-1)
        wrong = [place for place in range(1, len(entries)) if entries[place][0] < entries[place - 1][0]]
        stuck = self.stuck([name for period, name in entries])
        wrong = wrong + stuck[1] if stuck else wrong
        if wrong:
            return number(-3, min(wrong))
        for when in range(64):
            if sum(self.ground.blocks[name][0] for period, name in entries if period == when) > most:
                return number(-6, when)
        total = sum((self.ground.worth(name, price)[1] * Fraction(upper, lower) ** period for period, name in entries),
                    Fraction(0))
        return (max((period + 1 for period, name in entries), default=0), fraction(total), b"")


class Caller:
    """Rolls calls on a slow mine and keeps what they must answer."""

    def __init__(self, dice, small):
        self.dice = dice
        self.small = small
        self.slow = None
        self.calls = []
        self.checks = []

    def ask_for(self, call, wanted):
        self.calls.append(call)
        self.checks.append(lambda answer: answer == wanted)

    def price(self):
        if self.dice.roll(0, 19) == 0:
            return HIGHEST_PRICE + self.dice.roll(0, 1)
        return self.dice.roll(0, 12) if self.small else self.dice.roll(0, 60000)

    def place(self):
        place = self.slow.places[self.dice.roll(0, len(self.slow.places) - 1)]
        beside = self.dice.roll(0, 40)
        return tuple(self.slow.ground.sizes[k] if k == beside else place[k] for k in range(3))

    def names(self, most):
        """Blocks that can go one behind the other, and now and then one that can't."""
        found = []
        while len(found) < most:
            gone = self.slow.gone() | set(found)
            free = [name for name in range(len(self.slow.near)) if name not in gone and self.slow.near[name] <= gone]
            if self.dice.roll(0, 24) == 0:
                found.append(self.dice.roll(0, len(self.slow.near)))
            elif free:
                found.append(free[self.dice.roll(0, len(free) - 1)])
            else:
                break
        return found

    def begin(self):
        sizes = ((3, 1, 3), (2, 2, 3), (4, 1, 4), (3, 3, 2))[self.dice.roll(0, 3)]
        self.slow = Slow(self.dice.ground(sizes, (1, 5, 9)[self.dice.roll(0, 2)], self.small))
        self.ask_for(read(self.slow.ground.text()), number(0))

    def refused_read(self):
        text = self.slow.ground.text()
        length = self.dice.roll(0, len(text) - 1)
        self.ask_for(read(text[:length]), number(-3, length))

    def ask_of_blocks(self, kind):
        place, price, names = self.place(), self.price(), self.names(self.dice.roll(0, 5))
        if kind == 0:
            self.ask_for(write(), self.slow.write())
        elif kind == 1:
            self.ask_for(block(*place), self.slow.block(place))
        elif kind == 2:
            self.ask_for(value(*place, price), self.slow.value(place, price))
        elif kind == 3:
            self.ask_for(over(*place), self.slow.over(place))
        elif kind == 4:
            self.ask_for(pit(price), self.slow.pit_answer(price))
        elif kind == 5:
            self.ask_for(worth(price, names), self.slow.worth(price, names))
        else:
            self.ask_for(dug(price), self.slow.dug(price))

    def ask_of_prices(self):
        prices = [self.price() for k in range(self.dice.roll(0, 9))]
        self.ask_for(shells(prices), self.slow.shells(prices))
        place = self.place()
        now = Slow(self.slow.ground)
        now.digs = list(self.slow.digs)
        self.calls.append(from_price(*place))
        self.checks.append(lambda answer: now.from_price_fits(place, answer))

    def dig(self):
        names = self.names(self.dice.roll(0, 3))
        self.ask_for(dig(names), self.slow.dig(names))

    def plan(self):
        period = 0
        entries = []
        for name in self.names(self.dice.roll(0, 9)):
            period = max(0, period + (-1, 0, 0, 0, 1, 1, 2, 5)[self.dice.roll(0, 7)] * self.dice.roll(0, 2))
            entries.append((period, name))
        lower = self.dice.roll(0, 9) * self.dice.roll(0, 112)
        rest = (self.dice.roll(0, lower + 1), lower, self.dice.roll(0, 12 if self.small else 40000), entries)
        price = self.price()
        self.ask_for(plan(price, *rest), self.slow.plan(price, *rest))

    def step(self):
        kind = self.dice.roll(0, 20)
        if kind < 7:
            self.ask_of_blocks(kind)
        elif kind < 9:
            self.ask_of_prices()
        elif kind < 14:
            self.dig()
        elif kind < 17:
            self.ask_for(undo(), self.slow.undo())
        elif kind < 19:
            self.plan()
        elif kind == 19:
            self.refused_read()
        elif self.dice.roll(0, 4) == 0:
            self.begin()


class TogetherTest(unittest.TestCase):
    def test_long_lists_of_calls(self):
        numbers = {}
        for seed in range(120):
            caller = Caller(Dice(7000 + seed), seed % 2 == 0)
            caller.begin()
            for k in range(100):
                caller.step()
            given = ask(*caller.calls)
            self.assertEqual(len(given), len(caller.calls))
            for call, check, answer in zip(caller.calls, caller.checks, given):
                self.assertTrue(check(answer), (seed, call, answer))
                key = (call[0], min(answer[0], 0))
                numbers[key] = numbers.get(key, 0) + 1
        seen = [(9, -5), (9, -4), (9, -1), (10, -3), (11, -5), (12, -1), (13, -1), (13, -3), (13, -6), (8, -1), (7, -3)]
        for key in seen + [(call, 0) for call in range(1, 14)]:
            self.assertGreater(numbers.get(key, 0), 1, key)


if __name__ == "__main__":
    unittest.main()
