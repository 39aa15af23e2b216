"""The interface: how calls are handed in, how answers are given back, and what is refused before a model stands."""

import unittest

from openpit.planner import answers
from tests.helper import EXAMPLE, HIGHEST, Dice, ask, block, dig, dug, from_price, number, over, pit, plan, read, shells
from tests.helper import undo, value, worth, write

# Each call but read, also those of rows and numbers that would be refused otherwise.
OTHERS = (write(), block(0, 0, 0), block(HIGHEST, HIGHEST, HIGHEST), value(0, 0, 0, 0), value(9, 9, 9, HIGHEST),
          over(0, 0, 0), over(HIGHEST, 0, 0), pit(0), pit(1000001), worth(0, []), worth(1000001, [0, 0]),
          shells([]), shells([1, 2]), shells([1000001]), shells([1] * 9), from_price(0, 0, 0),
          from_price(HIGHEST, HIGHEST, HIGHEST), dig([]), dig([0]), dig([HIGHEST] * 3), undo(), dug(5), dug(HIGHEST),
          plan(1, 1, 1, 1, []), plan(1, 1, 1, 1, [(0, 0)]), plan(HIGHEST, 5, 0, 0, [(64, 0), (1, 9)]))


class NumbersGivenBackTest(unittest.TestCase):
    def test_refusal_with_and_without_a_list(self):
        self.assertEqual(answers([1, 0]), [4, -3, 1, 0, 0])
        self.assertEqual(answers([2]), [1, -8])

    def test_number_alone(self):
        self.assertEqual(answers(read(EXAMPLE)), [1, 0])
        self.assertEqual(answers(read(EXAMPLE) + over(0, 0, 0) + pit(1000001)), [1, 0, 1, 0, 1, -1])
        self.assertEqual(answers(read(EXAMPLE) + shells([]) + dig([2, 1]) + from_price(1, 0, 0) + undo() + undo()),
                         [1, 0, 1, 0, 1, 2, 1, -4, 1, 2, 1, -5])

    def test_lists(self):
        self.assertEqual(answers(read(EXAMPLE) + block(2, 0, 1)), [1, 0, 7, 0, 4, 5, 4, 1, 0, 0])
        self.assertEqual(answers(read(EXAMPLE) + value(1, 0, 1, 10)), [1, 0, 5, 1, 2, 38, 1, 0])
        self.assertEqual(answers(read(EXAMPLE) + over(0, 0, 1)), [1, 0, 5, 2, 2, 0, 1, 0])
        self.assertEqual(answers(read(EXAMPLE) + pit(10)), [1, 0, 9, 4, 6, 26, 1, 0, 1, 2, 4, 0])
        self.assertEqual(answers(read(EXAMPLE) + pit(4)), [1, 0, 5, 0, 2, 0, 1, 0])
        self.assertEqual(answers(read(EXAMPLE) + worth(10, [0])), [1, 0, 5, 0, 2, -4, 1, 0])
        self.assertEqual(answers(read(EXAMPLE) + worth(10, [0, 5])), [1, 0, 4, -3, 1, 1, 0])
        self.assertEqual(answers(read(EXAMPLE) + shells([4, 10])), [1, 0, 9, 2, 6, 0, 0, 1, 4, 26, 1, 0])
        self.assertEqual(answers(read(EXAMPLE) + from_price(1, 0, 1)), [1, 0, 4, 0, 1, 5, 0])
        self.assertEqual(answers(read(EXAMPLE) + dig([0, 5])), [1, 0, 4, -3, 1, 1, 0])
        self.assertEqual(answers(read(EXAMPLE) + dug(10)), [1, 0, 7, 0, 4, 0, 0, 0, 1, 0])
        self.assertEqual(answers(read(EXAMPLE) + plan(10, 1, 2, 4, [(0, 0), (1, 1)])), [1, 0, 5, 2, 2, -6, 1, 0])
        self.assertEqual(answers(read(EXAMPLE) + plan(10, 1, 2, 3, [(2, 0)])), [1, 0, 4, -6, 1, 2, 0])

    def test_text(self):
        data = list(EXAMPLE.encode())
        wanted = [1, 0, len(data) + 3, len(data), 0, len(data)] + data
        self.assertEqual(answers(read(EXAMPLE) + write()), wanted)

    def test_all_are_whole_numbers(self):
        given = answers(read(EXAMPLE) + write() + block(1, 0, 1) + value(1, 0, 1, 9) + over(1, 0, 1) + pit(10)
                        + worth(3, [0]) + worth(3, [0, 0]) + pit(HIGHEST) + shells([4, 10]) + from_price(1, 0, 1)
                        + from_price(9, 0, 1) + dig([]) + dig([0, 1]) + dig([0]) + dug(9) + undo() + undo()
                        + plan(10, 1, 2, 9, [(0, 1), (3, 0)]) + plan(10, 1, 2, 1, [(0, 1)]))
        self.assertIs(type(given), list)
        self.assertEqual({type(one) for one in given}, {int})

    def test_rows_of_several_lengths_one_behind_another(self):
        calls = read("pit") + read(EXAMPLE) + worth(10, [0, 1]) + worth(10, []) + pit(4) + read("") + worth(10, [1])
        self.assertEqual(answers(calls), [4, -3, 1, 3, 0, 1, 0, 5, 0, 2, -8, 1, 0, 5, 0, 2, 0, 1, 0, 5, 0, 2, 0, 1, 0,
                                          4, -3, 1, 0, 0, 5, 0, 2, -4, 1, 0])


class BeforeAModelStandsTest(unittest.TestCase):
    def test_every_call_but_read(self):
        for call in OTHERS:
            self.assertEqual(answers(call), [1, -8])
            self.assertEqual(answers(call + call), [1, -8] * 2)

    def test_after_a_refused_read(self):
        for call in OTHERS:
            self.assertEqual(ask(read("pit 1"), call), [number(-3, 5), number(-8)])

    def test_refused_calls_do_not_hinder_a_read(self):
        self.assertEqual(ask(*OTHERS, read(EXAMPLE), pit(10))[-2:], [number(0), (4, [26, 1, 0, 1, 2, 4], b"")])


class HandedInTest(unittest.TestCase):
    def calls(self):
        ground = Dice(31).ground((4, 4, 4), 9, False)
        return (pit(3) + read(ground.text()) + pit(700) + worth(9, [3, 2, 1, 0]) + worth(9, [0, 0]) + read("x")
                + write() + over(1, 1, 3) + value(1, 1, 1, 800) + block(0, 0, 4) + pit(9000) + shells([9000, 3, 700])
                + from_price(1, 2, 3) + dig([5, 3, 4]) + dig([3]) + from_price(1, 2, 3) + dig([0, 1, 2]) + dug(700)
                + plan(900, 9, 10, 99999, [(0, 15), (2, 14), (2, 13)]) + plan(9, 1, 2, 9, [(3, 6), (1, 7)]) + undo()
                + pit(9000) + dug(700))

    def test_stays_as_it_was(self):
        calls = self.calls()
        answers(calls)
        self.assertEqual(calls, self.calls())

    def test_is_not_changed_for_a_while_either(self):
        class Fixed(list):
            def refuse(self, *rest):
                raise AssertionError("changed")
            __setitem__ = __delitem__ = __iadd__ = __imul__ = refuse
            append = extend = insert = pop = remove = clear = sort = reverse = refuse
        self.assertEqual(answers(Fixed(self.calls())), answers(self.calls()))

    def test_second_time_gives_the_same(self):
        calls = self.calls()
        first = answers(calls)
        self.assertEqual(answers(calls), first)
        self.assertEqual(answers(write()), [1, -8])

    def test_what_was_given_back_is_not_kept(self):
        calls = self.calls()
        first = answers(calls)
        wanted = list(first)
        first.clear()
        self.assertEqual(answers(calls), wanted)


class SizeTest(unittest.TestCase):
    def test_four_hundred_calls(self):
        given = ask(read(EXAMPLE), *[over(1, 0, 1)] * 399)
        self.assertEqual(given, [number(0)] + [(3, [0, 1, 2], b"")] * 399)

    def test_thirty_thousand_numbers(self):
        self.assertEqual(ask([1, 29998] + [48] * 29998), [number(-3, 0)])
        text = EXAMPLE[:-1] + "0" * (29998 - len(EXAMPLE))
        self.assertEqual(ask(read(text)), [number(-3, 29997)])


if __name__ == "__main__":
    unittest.main()
