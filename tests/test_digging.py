"""dig, undo and dug; promises 3 (what's dug of a pit leaves the rest of it), 4 and 6 where blocks are gone."""

import unittest
from fractions import Fraction

from openpit.planner import answers
from tests.helper import EXAMPLE, HIGHEST, Dice, Ground, above, ask, block, dig, dug, fraction, from_price, least_best_set
from tests.helper import lying_over, number, over, pit, places, plan, read, shells, undo, value, worth, write

SIZES = ((1, 1, 6), (5, 1, 2), (3, 1, 3), (2, 2, 3), (3, 3, 2), (4, 4, 4), (8, 8, 1), (8, 1, 6), (2, 5, 6))

# Blocks, over them, and what's gone: what a call may not change unseen.
SEEN = [call for place in places((3, 1, 2)) for call in (block(*place), over(*place), from_price(*place))]
LOOK = sum(SEEN, dug(0) + dug(10) + pit(4) + pit(10) + pit(40) + shells([3, 30]))
HOW_MANY_SEEN = len(SEEN) + 6


def some_order(dice, near, wanted):
    """The wanted blocks, or some of them, in an order in which they can go."""
    order = []
    while True:
        free = [k for k in sorted(wanted) if k not in order and near[k] <= set(order)]
        if not free:
            return order
        order.append(free[dice.roll(0, len(free) - 1)])


def in_parts(dice, order):
    """The order as several digs, one behind the other."""
    parts = []
    while order:
        size = dice.roll(1, len(order))
        parts.append(order[:size])
        order = order[size:]
    return parts


def gone(*calls):
    """The numbers of the blocks of the example's model that are gone behind these calls."""
    given = ask(read(EXAMPLE), *calls, *[block(*place) for place in places((3, 1, 2))])[-6:]
    return [answer[1][0] for answer in given if answer[1][3] == 1]


class DigTest(unittest.TestCase):
    def test_how_many(self):
        given = ask(read(EXAMPLE), dig([1]), dig([2, 0]), dig([4, 3, 5]))
        self.assertEqual(given[1:], [number(1), number(2), number(3)])
        self.assertEqual(answers(read(EXAMPLE) + dig([2, 1])), [1, 0, 1, 2])

    def test_what_is_gone(self):
        self.assertEqual(gone(), [])
        self.assertEqual(gone(dig([1])), [1])
        self.assertEqual(gone(dig([1]), dig([2, 5])), [1, 2, 5])
        self.assertEqual(gone(dig([2, 1, 0, 5, 4, 3])), [0, 1, 2, 3, 4, 5])

    def test_a_block_that_there_is_not(self):
        for name in (6, 64, 65, 1000, HIGHEST):
            given = ask(read(EXAMPLE), dig([name]), dig([0, name]), dig([0, 1, 2, name, 9]))
            self.assertEqual(given[1:], [number(-3, 0), number(-3, 1), number(-3, 3)])

    def test_a_block_that_is_gone_already(self):
        given = ask(read(EXAMPLE), dig([1]), dig([1]), dig([0, 1]), dig([0, 2, 1, 4]))
        self.assertEqual(given[2:], [number(-3, 0), number(-3, 1), number(-3, 2)])

    def test_a_block_named_twice(self):
        given = ask(read(EXAMPLE), dig([0, 0]), dig([0, 1, 2, 4, 1]), dig([0, 1, 2, 2, 2]))
        self.assertEqual(given[1:], [number(-3, 1), number(-3, 4), number(-3, 3)])

    def test_a_block_that_cannot_go_in_its_turn(self):
        given = ask(read(EXAMPLE), dig([4]), dig([0, 3, 1]), dig([0, 2, 4, 1]), dig([0, 1, 5]))
        self.assertEqual(given[1:], [number(-3, 0), number(-3, 1), number(-3, 2), number(-3, 2)])

    def test_the_first_of_several(self):
        given = ask(read(EXAMPLE), dig([2]), dig([0, 4, 6, 2]), dig([0, 6, 4, 2]), dig([0, 2, 4, 6]), dig([0, 0, 2]))
        self.assertEqual(given[2:], [number(-3, 1)] * 4)

    def test_refused_dig_digs_none(self):
        for blocks in ([6], [0, 6], [0, 1, 2, 4, 3, 5, 0], [0, 4], [0, 0], [0, 1, 2, 3, HIGHEST]):
            self.assertEqual(gone(dig(blocks)), [])
            self.assertEqual(gone(dig([2]), dig([0, 2] + blocks)), [2])

    def test_a_dig_may_be_repeated_behind_a_refused_one(self):
        given = ask(read(EXAMPLE), dig([0, 1, 5]), dig([0, 1, 2, 5]))
        self.assertEqual(given[1:], [number(-3, 2), number(4)])

    def test_of_none(self):
        self.assertEqual(answers(read(EXAMPLE) + dig([])), [1, 0, 1, 0])
        self.assertEqual(ask(read(EXAMPLE), dig([]), undo())[1:], [number(0), number(-5)])
        self.assertEqual(ask(read(EXAMPLE), dig([0, 1]), dig([]), dig([]), undo(), undo())[1:],
                         [number(2), number(0), number(0), number(2), number(-5)])
        self.assertEqual(gone(dig([0, 1]), dig([])), [0, 1])

    def test_whole_model_of_64_blocks(self):
        ground = Dice(51).ground((4, 4, 4), 9, False)
        given = ask(read(ground.text()), dig(range(64)), pit(1000000), dig([63]), dig([64]), over(0, 0, 3), undo(),
                    block(3, 3, 3))
        self.assertEqual(given[1:-1], [number(64), (0, [0, 1], b""), number(-3, 0), number(-3, 0), number(0), number(64)])
        self.assertEqual(given[-1][1][3], 0)

    def test_longest_list(self):
        given = ask(read(EXAMPLE), dig(list(range(6)) + [0] * 994), dig(range(6)))
        self.assertEqual(given[1:], [number(-3, 6), number(6)])


class UndoTest(unittest.TestCase):
    def test_none_to_undo(self):
        self.assertEqual(answers(read(EXAMPLE) + undo()), [1, 0, 1, -5])
        self.assertEqual(ask(read(EXAMPLE), undo(), undo(), dig([0]), undo(), undo())[1:],
                         [number(-5), number(-5), number(1), number(1), number(-5)])

    def test_again_and_again(self):
        given = ask(read(EXAMPLE), dig([1]), dig([2, 5]), dig([0, 4, 3]), undo(), undo(), undo(), undo())
        self.assertEqual(given[4:], [number(3), number(2), number(1), number(-5)])

    def test_what_is_there_again(self):
        digs = [dig([1]), dig([2, 5]), dig([0, 4, 3])]
        self.assertEqual(gone(*digs, undo()), [1, 2, 5])
        self.assertEqual(gone(*digs, undo(), undo()), [1])
        self.assertEqual(gone(*digs, undo(), undo(), undo()), [])
        self.assertEqual(gone(*digs, undo(), undo(), dig([0]), undo()), [1])
        self.assertEqual(gone(*digs, undo(), undo(), dig([0])), [0, 1])

    def test_what_was_taken_back_may_be_dug_again(self):
        given = ask(read(EXAMPLE), dig([1, 0]), undo(), dig([3]), dig([1, 0, 3]), undo(), undo())
        self.assertEqual(given[1:], [number(2), number(2), number(-3, 0), number(3), number(3), number(-5)])

    def test_refused_digs_are_not_taken_back(self):
        given = ask(read(EXAMPLE), dig([1]), dig([0, 4]), dig([1]), undo(), dig([0, 6]), undo())
        self.assertEqual(given[1:], [number(1), number(-3, 1), number(-3, 0), number(1), number(-3, 1), number(-5)])

    def test_refused_undo_leaves_what_comes(self):
        self.assertEqual(gone(undo(), dig([0]), dig([1]), undo(), undo(), undo(), dig([2])), [2])


class ReadTest(unittest.TestCase):
    def test_read_begins_anew(self):
        """Nothing is gone, nothing is to be undone: neither of the same model nor of another."""
        for text in (EXAMPLE, "pit 3 1 2\nslope 1\ncosts 1 1\nkeeps 1 1\n1:1 1:1 1:1\n1:1 1:1 1:1\n"):
            given = ask(read(EXAMPLE), dig([0, 1]), dig([2]), read(text), undo(), dug(5), pit(5), over(1, 0, 1), dig([1]),
                        undo(), undo())
            fresh = ask(read(text), undo(), dug(5), pit(5), over(1, 0, 1), dig([1]), undo(), undo())
            self.assertEqual(given[3:], fresh)
            self.assertEqual(given[4:6], [number(-5), (0, [0, 0, 0, 1], b"")])

    def test_refused_read_leaves_what_is_gone_and_what_can_be_undone(self):
        for text in ("", "pit", EXAMPLE + "\n", EXAMPLE.replace("keeps 1 2", "keeps 3 2"),
                     EXAMPLE.replace("4:10", "4:100000"), EXAMPLE.replace("4:10", "4;10")):
            given = ask(read(EXAMPLE), dig([0, 1]), dig([2]), read(text), LOOK, undo(), LOOK, undo(), LOOK, undo())
            wanted = ask(read(EXAMPLE), dig([0, 1]), dig([2]), LOOK, undo(), LOOK, undo(), LOOK, undo())
            self.assertLess(given[3][0], 0)
            self.assertEqual(given[:3] + given[4:], wanted)

    def test_written_text_tells_nothing_of_what_is_gone(self):
        given = ask(read(EXAMPLE), dig([0, 1, 2, 4]), write())
        self.assertEqual(given[2], (len(EXAMPLE), [], EXAMPLE.encode()))


class DugTest(unittest.TestCase):
    def test_nothing_gone(self):
        self.assertEqual(answers(read(EXAMPLE) + dug(10)), [1, 0, 7, 0, 4, 0, 0, 0, 1, 0])
        self.assertEqual(ask(read(EXAMPLE), dig([0]), undo(), dug(0))[3], (0, [0, 0, 0, 1], b""))

    def test_after_digs_and_undos(self):
        given = ask(read(EXAMPLE), dig([0, 1]), dug(10), dig([2, 4]), dug(10), dug(4), dug(11), dig([3]), dug(11), undo(),
                    undo(), dug(1000000))
        self.assertEqual([given[k] for k in (2, 4, 5, 6, 8, 11)],
                         [(2, [8, 0, -8, 1], b""), (4, [16, 10, 26, 1], b""), (4, [16, 10, -4, 1], b""),
                          (4, [16, 10, 31, 1], b""), (5, [20, 12, 30, 1], b""), (2, [8, 0, -8, 1], b"")])

    def test_fractions(self):
        text = "pit 2 1 1\nslope 1\ncosts 0 1\nkeeps 2 6\n1:5 2:4\n"
        given = ask(read(text), dig([1]), dug(3), dug(2), dig([0]), dug(2), dug(1))
        self.assertEqual([given[k] for k in (2, 3, 5, 6)], [(1, [2, 4, 2, 1], b""), (1, [2, 4, 2, 3], b""),
                                                            (2, [3, 9, 3, 1], b""), (2, [3, 9, 2, 3], b"")])

    def test_price(self):
        given = ask(read(EXAMPLE), dug(1000000), dug(1000001), dug(HIGHEST), dig([0]), dug(1000001), dug(1000000))
        self.assertEqual(given[1:], [(0, [0, 0, 0, 1], b""), number(-1), number(-1), number(1), number(-1),
                                     (1, [4, 0, -4, 1], b"")])

    def test_many(self):
        dice = Dice(52)
        for sizes in SIZES:
            for slope in (1, 5, 9):
                for small in (True, False):
                    ground = dice.ground(sizes, slope, small)
                    order = some_order(dice, above(sizes, slope), range(len(ground.blocks)))
                    parts = in_parts(dice, order)
                    price = dice.roll(0, 20) if small else dice.roll(0, 1000000)
                    given = ask(read(ground.text()), *[call for part in parts for call in (dig(part), dug(price))])
                    whole = []
                    for part, answer in zip(parts, given[2::2]):
                        whole = whole + part
                        tonnes = sum(ground.blocks[k][0] for k in whole)
                        metal = sum(ground.blocks[k][1] for k in whole)
                        total = sum((ground.worth(k, price)[1] for k in whole), Fraction(0))
                        self.assertEqual(answer, (len(whole), [tonnes, metal] + fraction(total), b""))


class RestOfThePitTest(unittest.TestCase):
    """Promise 3: what's dug of a pit leaves the rest of it."""

    def test_example(self):
        given = ask(read(EXAMPLE), dig([1, 0]), pit(10), dig([2]), pit(10), dig([4]), pit(10), undo(), undo(), undo(),
                    pit(10))
        self.assertEqual([given[k] for k in (2, 4, 6, 10)],
                         [(2, [34, 1, 2, 4], b""), (1, [38, 1, 4], b""), (0, [0, 1], b""), (4, [26, 1, 0, 1, 2, 4], b"")])

    def test_what_is_dug_beside_the_pit_may_make_it_greater(self):
        """At 4 the pit is empty: 20 - 12 - 12 is below 0. One block less over the middle one leaves 0, two leave 4."""
        given = ask(read(EXAMPLE), pit(4), dig([0]), pit(4), dig([2]), pit(4))
        self.assertEqual(given[1::2], [(0, [0, 1], b""), (0, [0, 1], b""), (2, [4, 1, 1, 4], b"")])

    def test_parts_of_many_pits(self):
        dice = Dice(53)
        begun = 0
        for sizes in SIZES:
            for slope in (1, 5, 9):
                for kind in range(4):
                    ground, price = self.some_ground(dice, sizes, slope, kind)
                    whole = ask(read(ground.text()), pit(price))[1]
                    order = some_order(dice, above(sizes, slope), whole[1][2:])
                    self.assertEqual(sorted(order), whole[1][2:])
                    self.rests(ground, price, whole, in_parts(dice, order))
                    begun += len(order) > 1
        self.assertGreater(begun, 40)

    def some_ground(self, dice, sizes, slope, kind):
        if kind < 2:
            return dice.ground(sizes, slope, True), dice.roll(1, 9)
        if kind == 2:
            return dice.ground(sizes, slope, False), dice.roll(1000, 60000)
        blocks = [(dice.roll(1, 9), dice.roll(0, 1) * dice.roll(1, 9) * (z + 1)) for x, y, z in places(sizes)]
        return Ground(sizes, slope, (3, 1), (2, 3), blocks), dice.roll(3, 12)

    def rests(self, ground, price, whole, parts):
        """Behind each dig the pit is the rest, and behind each undo what it was before the dig."""
        digging = [call for part in parts for call in (dig(part), pit(price))]
        given = ask(read(ground.text()), *digging, *[undo(), pit(price)] * len(parts))[1:]
        rests = [whole[1][2:]]
        for part in parts:
            rests.append([k for k in rests[-1] if k not in part])
        wanted = []
        for part, rest in list(zip(parts, rests[1:])) + list(zip(reversed(parts), reversed(rests[:-1]))):
            wanted.extend([number(len(part)), self.pit_of(ground, price, rest)])
        self.assertEqual(given, wanted)
        self.assertEqual(self.pit_of(ground, price, rests[0]), whole)

    def pit_of(self, ground, price, blocks):
        total = sum((ground.worth(k, price)[1] for k in blocks), Fraction(0))
        return (len(blocks), fraction(total) + blocks, b"")

    def test_pit_of_what_is_left_whatever_is_gone(self):
        """Promise 1 behind digs of any kind, by the tests' own flow."""
        dice = Dice(54)
        for sizes in SIZES:
            for slope in (1, 5, 9):
                near = above(sizes, slope)
                for kind in range(4):
                    ground, price = self.some_ground(dice, sizes, slope, kind)
                    order = some_order(dice, near, range(len(near)))[:dice.roll(1, len(near))]
                    worths = [0 if k in order else one for k, one in enumerate(ground.worths(price))]
                    most, least = least_best_set([some - set(order) for some in near], worths)
                    self.assertEqual(ask(read(ground.text()), dig(order), pit(price))[2],
                                     (len(least), fraction(most) + least, b""))


class OverTest(unittest.TestCase):
    """Promise 4: what's told as lying over a block is what must go before it."""

    def test_what_is_left_only(self):
        given = ask(read(EXAMPLE), dig([1]), over(1, 0, 1), over(0, 0, 1), dig([0]), over(1, 0, 1), over(0, 0, 1),
                    undo(), over(1, 0, 1))
        self.assertEqual([given[k] for k in (2, 3, 5, 6, 8)],
                         [(2, [0, 2], b""), (1, [0], b""), (1, [2], b""), number(0), (2, [0, 2], b"")])

    def test_of_a_block_that_is_gone(self):
        self.assertEqual(ask(read(EXAMPLE), dig([0, 1, 3]), over(0, 0, 1), over(0, 0, 0))[2:], [number(0)] * 2)

    def test_a_block_goes_when_nothing_is_over_it_any_more(self):
        dice = Dice(55)
        for sizes in ((3, 1, 3), (2, 2, 3), (3, 3, 2), (4, 4, 4), (2, 5, 6)):
            for slope in (1, 5, 9):
                ground = dice.ground(sizes, slope, False)
                near = above(sizes, slope)
                whole = lying_over(sizes, slope)
                target = len(near) - 1 - dice.roll(0, sizes[0] * sizes[1] - 1)
                order = some_order(dice, near, whole[target])
                calls = [read(ground.text())]
                for one in order:
                    calls.extend([over(*places(sizes)[target]), dig([target]), worth(0, [target]), dig([one])])
                calls.extend([over(*places(sizes)[target]), worth(0, [target]), dig([target])])
                given = ask(*calls)[1:]
                for place, one in enumerate(order):
                    rest = sorted(order[place:])
                    self.assertEqual(given[4 * place:4 * place + 4],
                                     [(len(rest), rest, b""), number(-3, 0), number(-3, 0), number(1)])
                self.assertEqual((given[-3], given[-2][0], given[-1]), (number(0), 0, number(1)))


class NothingIsChangedTest(unittest.TestCase):
    """Promise 6: refused calls change nothing, and those that ask change nothing either."""

    REFUSED = (dig([6]), dig([0, 1, 6]), dig([0, 0]), dig([0, 1, 2, 3, 4, 5, 0]), dig([0, 5]), shells([1] * 9),
               shells([1, 1000001]), from_price(3, 0, 0), from_price(0, 0, HIGHEST), dug(1000001), worth(1000001, [0]),
               worth(10, [0, 0]), worth(10, [0, 6]), plan(1000001, 1, 2, 99, [(0, 0)]), plan(1, 1, 0, 99, [(0, 0)]),
               plan(1, 1, 1001, 99, [(0, 0)]), plan(1, 3, 2, 99, [(0, 0)]), plan(1, 1, 2, 99, [(64, 0)]),
               plan(1, 1, 2, 99, [(1, 0), (0, 1)]), plan(1, 1, 2, 99, [(0, 0), (0, 0)]), plan(1, 1, 2, 0, [(0, 0)]),
               block(3, 0, 0), value(0, 0, 0, 1000001), over(0, 0, 2), pit(1000001), read("pit"), read(EXAMPLE + "x"))
    ASKING = (dig([]), shells([]), shells([1, 4, 10, 1000000]), from_price(0, 0, 1), from_price(2, 0, 1), dug(0),
              write(), value(1, 0, 1, 10), block(1, 0, 1), over(1, 0, 1), pit(4), worth(10, []),
              plan(10, 1, 2, 0, []))

    def unchanged(self, before, call, refused):
        given = ask(read(EXAMPLE), *before, LOOK, call, LOOK, *[undo()] * (len(before) + 1))[1 + len(before):]
        wanted = ask(read(EXAMPLE), *before, LOOK, *[undo()] * (len(before) + 1))[1 + len(before):]
        self.assertEqual(given[:HOW_MANY_SEEN] + given[2 * HOW_MANY_SEEN + 1:], wanted, call)
        self.assertEqual(given[HOW_MANY_SEEN + 1:2 * HOW_MANY_SEEN + 1], wanted[:HOW_MANY_SEEN], call)
        self.assertEqual(given[HOW_MANY_SEEN][0] < 0, refused, call)

    def test_refused_calls(self):
        for call in self.REFUSED:
            self.unchanged([], call, True)
            self.unchanged([dig([0]), dig([1])], call, True)
        self.unchanged([], undo(), True)
        self.unchanged([dig([0]), dig([1])], from_price(1, 0, 0), True)
        self.unchanged([dig([0]), dig([1])], plan(1, 1, 2, 99, [(0, 2), (0, 1)]), True)

    def test_calls_that_ask(self):
        for call in self.ASKING:
            self.unchanged([], call, False)
            self.unchanged([dig([0]), dig([1])], call, False)
        for call in (worth(10, [0, 1, 2, 4]), plan(10, 1, 2, 99, [(0, 0), (0, 1), (1, 2), (3, 4)])):
            self.unchanged([], call, False)
            self.unchanged([dig([0, 1, 2, 3]), undo()], call, False)
        for call in (worth(10, [2, 4]), plan(10, 1, 2, 99, [(0, 2), (63, 4)])):
            self.unchanged([dig([0]), dig([1])], call, False)

    def test_refused_undo_behind_undos(self):
        given = ask(read(EXAMPLE), dig([0]), undo(), LOOK, undo(), LOOK)[3:]
        self.assertEqual(given[HOW_MANY_SEEN], number(-5))
        self.assertEqual(given[:HOW_MANY_SEEN], given[HOW_MANY_SEEN + 1:])


class AsksOfWhatIsGoneTest(unittest.TestCase):
    def test_value_and_block_of_a_block_that_is_gone(self):
        given = ask(read(EXAMPLE), dig([0, 1, 2, 4]), value(1, 0, 1, 10), block(1, 0, 1))
        self.assertEqual(given[2:], [(1, [38, 1], b""), (0, [4, 4, 10, 1], b"")])

    def test_worth_of_what_is_left(self):
        given = ask(read(EXAMPLE), dig([0, 1]), worth(10, [2, 4]), worth(10, [0]), worth(10, [2, 1]), worth(10, [4]),
                    worth(10, []), undo(), worth(10, [2, 4]))
        self.assertEqual(given[2:], [(0, [34, 1], b""), number(-3, 0), number(-3, 1), number(-3, 0), (0, [0, 1], b""),
                                     number(2), number(-3, 1)])


if __name__ == "__main__":
    unittest.main()
