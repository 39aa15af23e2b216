"""Promise 5: a text is read in one way or refused at its first fault; what's written is read back."""

import unittest

from tests.helper import EXAMPLE, Dice, ask, block, fault, number, pit, read, write

FAULTLESS = "pit 2 1 2\nslope 1\ncosts 30 0\nkeeps 7 20\n10:0 0:205\n1:1 3:40\n"


def told(text):
    return ask(read(text))[0]


def place_of(text, part):
    """Where this part, which stands once in the text, begins."""
    if text.count(part) != 1:
        raise AssertionError(part)
    return text.index(part)


def model(sizes="1 1 1", slope="1", costs="0 0", keeps="0 1", blocks="0:0\n"):
    return "pit " + sizes + "\nslope " + slope + "\ncosts " + costs + "\nkeeps " + keeps + "\n" + blocks


def sized(x, y, z, cell="0:0"):
    return model("%d %d %d" % (x, y, z), blocks=(" ".join([cell] * x) + "\n") * y * z)


class ReadCase(unittest.TestCase):
    def good(self, text):
        data = text.encode()
        self.assertEqual(ask(read(text), write()), [number(0), (len(data), [], data)])

    def bad(self, text, how, place):
        self.assertEqual(told(text), number(how, place), text[:200])


class FormTest(ReadCase):
    def test_what_is_written_is_what_was_read(self):
        for text in (EXAMPLE, FAULTLESS, model(), model("1 1 1", "9", "9999 9999", "1000 1000", "9999:99999\n")):
            self.good(text)

    def test_written_text_is_read_back(self):
        dice = Dice(21)
        for sizes in ((1, 1, 1), (3, 1, 2), (8, 8, 1), (4, 4, 4), (2, 5, 6), (1, 8, 6)):
            for slope in (1, 5, 9):
                text = dice.ground(sizes, slope, False).text()
                self.good(text)
                written = ask(read(text), write())[1][2]
                self.assertEqual(ask(read(written), write(), pit(50)), ask(read(text), write(), pit(50)))

    def test_every_size(self):
        for x in range(10):
            for y in range(10):
                for z in range(8):
                    text = sized(x, y, z)
                    if not 1 <= x <= 8:
                        self.bad(text, -4, 4)
                    elif not 1 <= y <= 8:
                        self.bad(text, -4, 6)
                    elif not 1 <= z <= 6 or x * y * z > 64:
                        self.bad(text, -4, 8)
                    else:
                        self.good(text)

    def test_every_proper_beginning_is_refused_at_its_length(self):
        for text in (EXAMPLE, FAULTLESS, sized(8, 8, 1), model(costs="9999 9999", keeps="1000 1000")):
            for length in range(len(text)):
                self.bad(text[:length], -3, length)

    def test_empty(self):
        self.bad("", -3, 0)

    def test_text_behind_the_last_line(self):
        for rest in ("\n", " ", "0", "1:1\n", "pit 1 1 1\n", "\x00"):
            self.bad(FAULTLESS + rest, -3, len(FAULTLESS))
            self.bad(sized(4, 4, 4) + rest, -3, len(sized(4, 4, 4)))

    def test_wrong_byte_at_each_place(self):
        for text in (FAULTLESS, "pit 1 2 1\nslope 9\ncosts 0 9999\nkeeps 0 1000\n9999:99999\n0:0\n"):
            for place in range(len(text)):
                for byte in (0, 1, 9, 11, 13, 31, 33, 43, 45, 47, 59, 65, 95, 122, 127, 128, 160, 178, 255):
                    if chr(byte) != text[place]:
                        self.bad(text[:place] + chr(byte) + text[place + 1:], -3, place)

    def test_any_byte_at_each_place_put_in_or_instead(self):
        for place in range(len(FAULTLESS) + 1):
            for byte in range(256):
                self.like_patterns(FAULTLESS[:place] + chr(byte) + FAULTLESS[place:])
                self.like_patterns(FAULTLESS[:place] + chr(byte) + FAULTLESS[place + 1:])

    def test_left_out_and_two_changes(self):
        dice = Dice(22)
        for place in range(len(FAULTLESS)):
            for size in (1, 2, 5):
                self.like_patterns(FAULTLESS[:place] + FAULTLESS[place + size:])
        for k in range(4000):
            text = FAULTLESS
            for change in range(2):
                place = dice.roll(0, len(text))
                put = "0123456789 :\npX"[dice.roll(0, 14)]
                text = text[:place] + put * dice.roll(0, 3) + text[place + dice.roll(0, 1):]
            self.like_patterns(text)

    def like_patterns(self, text):
        wanted = fault(text)
        if wanted is None:
            self.good(text)
        else:
            self.bad(text, *wanted)

    def test_needless_noughts(self):
        self.bad(model("01 1 1"), -3, 5)
        self.bad(model("1 00 1"), -3, 7)
        self.bad(model(slope="05"), -3, 17)
        for text, place in ((model(costs="00 0"), "0 0\nk"), (model(costs="0 00"), "0\nk"),
                            (model(keeps="00 1"), "0 1\n0"), (model(keeps="0 01"), "1\n0"),
                            (model(blocks="00:0\n"), "0:0"), (model(blocks="0:00\n"), "0\n"),
                            (model(blocks="01:0\n"), "1:0"), (model(blocks="0:07\n"), "7\n")):
            self.bad(text, -3, text.rindex(place))

    def test_signs_and_blanks_that_may_not_stand(self):
        for text, part in ((model("+1 1 1"), "+"), (model("1  1 1"), " 1 1\n"), (model("1 1 1 "), " \n"),
                           (model(slope="-1"), "-"), (model(costs="1,000 0"), ","), (model(keeps="0 1\r"), "\r"),
                           (model(blocks="1 :1\n"), " :"), (model(blocks="1: 1\n"), " 1\n"),
                           (model(blocks="1:1 \n"), " \n"), (model(blocks=" 1:1\n"), " 1:1"),
                           (model(blocks="\n0:0\n"), "\n0:0"), (model(blocks="1;1\n"), ";")):
            self.bad(text, -3, text.rindex(part))

    def test_too_few_and_too_many_blocks_in_a_line(self):
        few = model("2 1 2", blocks="1:1 2:2\n3:3\n")
        many = model("2 1 2", blocks="1:1 2:2 9:9\n3:3 4:4\n")
        self.bad(few, -3, len(few) - 1)
        self.bad(many, -3, place_of(many, " 9:9"))

    def test_too_few_lines(self):
        text = model("2 1 2", blocks="1:1 2:2\n")
        self.bad(text, -3, len(text))
        self.bad(model(blocks=""), -3, len(model(blocks="")))


class HeadNumberTest(ReadCase):
    """Each number of the first four lines at its bounds and just beyond."""

    def test_width_and_length(self):
        self.good(sized(1, 1, 1))
        self.good(sized(8, 1, 1))
        self.good(sized(1, 8, 1))
        for many in ("0", "9", "10", "65", "4294967297"):
            self.bad(model(many + " 1 1"), -4, 4)
            self.bad(model("1 " + many + " 1"), -4, 6)

    def test_depth(self):
        self.good(sized(1, 1, 6))
        for many in ("0", "7", "60"):
            self.bad(model("1 1 " + many), -4, 8)

    def test_more_than_64_blocks(self):
        for sizes in ((4, 4, 4), (8, 8, 1), (8, 4, 2), (8, 2, 4), (7, 3, 3), (3, 7, 3), (2, 5, 6), (8, 1, 6)):
            self.good(sized(*sizes))
        for sizes in ((8, 8, 2), (5, 4, 4), (4, 5, 4), (4, 4, 5), (6, 6, 2), (7, 5, 2), (6, 2, 6), (8, 8, 6)):
            self.bad(sized(*sizes), -4, 8)

    def test_slope(self):
        for slope in ("1", "5", "9"):
            self.good(model(slope=slope))
        for slope in ("0", "2", "3", "4", "6", "7", "8", "10", "15", "19", "59", "99"):
            self.bad(model(slope=slope), -4, 16)

    def test_costs(self):
        for costs in ("0 0", "9999 0", "0 9999", "9999 9999"):
            self.good(model(costs=costs))
        self.bad(model(costs="10000 0"), -4, 24)
        self.bad(model(costs="0 10000"), -4, 26)
        self.bad(model(costs="10000 10000"), -4, 24)
        self.bad(model(costs="99990 0"), -4, 24)

    def test_keeps(self):
        for keeps in ("0 1", "1 1", "0 1000", "999 1000", "1000 1000", "3 3"):
            self.good(model(keeps=keeps))
        for keeps in ("0 0", "1 0", "0 1001", "5 1001", "0 10000", "2 1", "4 3", "7 0"):
            self.bad(model(keeps=keeps), -4, 36)

    def test_long_number_in_front_of_e(self):
        self.bad(model(keeps="1001 1000"), -4, 39)
        self.bad(model(keeps="1001 1001"), -4, 39)
        self.bad(model(keeps="5000 0"), -4, 39)


class BlockNumberTest(ReadCase):
    def test_tonnes_and_metal(self):
        self.good(model(blocks="9999:99999\n"))
        begin = len(model(blocks=""))
        self.bad(model(blocks="10000:0\n"), -4, begin)
        self.bad(model(blocks="0:100000\n"), -4, begin + 2)
        self.bad(model(blocks="10000:100000\n"), -4, begin)
        self.bad(model("2 1 1", blocks="1:100000 10000:1\n"), -4, begin + 2)
        self.bad(model("1 2 1", blocks="1:1\n99999:99999\n"), -4, begin + 4)

    def test_first_of_many(self):
        for bad in range(12):
            cells = ["7:8"] * 12
            cells[bad] = "10000:8"
            text = model("3 2 2", blocks="".join([" ".join(cells[k:k + 3]) + "\n" for k in range(0, 12, 3)]))
            self.bad(text, -4, place_of(text, "10000"))
            later = text[:-2] + "100000\n" if bad < 11 else text
            self.bad(later, -4, place_of(text, "10000"))


class OrderTest(ReadCase):
    """Of two faults the one that the document tells first."""

    def test_form_in_the_head_before_a_number_there(self):
        self.bad(model("0 1 1").replace("slope", "slopE"), -3, 14)
        self.bad(model("9 9 9", "2", "10000 10000", "5 x"), -3, len(model("9 9 9", "2", "10000 10000", "5 ", "")) - 1)
        self.bad(model("0 0 0", blocks="")[:-1], -3, len(model("0 0 0", blocks="")) - 1)

    def test_number_in_the_head_before_form_in_the_blocks(self):
        self.bad(model("0 1 1", blocks="x"), -4, 4)
        self.bad(model(slope="2", blocks=""), -4, 16)
        self.bad(model(keeps="2 1", blocks="x"), -4, 36)
        self.bad(model("9 1 1", blocks=""), -4, 4)

    def test_first_number_in_the_head(self):
        self.bad(model("9 9 9", "2", "10000 10000", "1 0"), -4, 4)
        self.bad(model("8 9 9", "2", "10000 10000", "1 0"), -4, 6)
        self.bad(model("8 8 2", "2", "10000 10000", "1 0"), -4, 8)
        self.bad(model("8 8 1", "2", "10000 10000", "1 0"), -4, 16)
        self.bad(model("8 8 1", "1", "10000 10000", "1 0"), -4, 24)
        self.bad(model("8 8 1", "1", "9999 10000", "1 0"), -4, 29)
        self.bad(model("8 8 1", "1", "9999 9999", "1 0"), -4, 42)

    def test_form_in_the_blocks_before_a_number_there(self):
        text = model("2 1 1", blocks="10000:100000 1;1\n")
        self.bad(text, -3, place_of(text, ";"))
        self.bad(model(blocks="10000:0\n\n"), -3, len(model(blocks="10000:0\n")))
        self.bad(model(blocks="10000:0"), -3, len(model(blocks="10000:0")))


class LongTest(ReadCase):
    """Numbers of thousands of digits are numbers like others."""

    def test_long_numbers(self):
        long = "9" * 20000
        self.bad(model(long + " 1 1"), -4, 4)
        self.bad(model("1 1 " + long), -4, 8)
        self.bad(model(slope="1" + "0" * 20000), -4, 16)
        self.bad(model(costs="0 " + long), -4, 26)
        self.bad(model(keeps=long + " 1"), -4, 35 + len(long))
        self.bad(model(keeps="1 " + long), -4, 36)
        self.bad(model(keeps=long[:9000] + " " + long[:9000]), -4, 35 + 9000)
        self.bad(model(blocks=long + ":0\n"), -4, len(model(blocks="")))
        self.bad(model(blocks="0:" + long + "\n"), -4, len(model(blocks="")) + 2)

    def test_long_number_without_an_end(self):
        text = "pit 1" + "0" * 29000
        self.bad(text, -3, len(text))
        self.bad(text + "x", -3, len(text))
        self.bad("pit " + "0" * 29000, -3, 5)

    def test_long_rest(self):
        self.bad(model() + "0:0\n" * 7000, -3, len(model()))


class ModelStandsTest(unittest.TestCase):
    def test_second_model_takes_the_place_of_the_first(self):
        given = ask(read(EXAMPLE), read(FAULTLESS), write(), block(1, 0, 1), block(2, 0, 0))
        self.assertEqual(given[1:], [number(0), (len(FAULTLESS), [], FAULTLESS.encode()), (0, [3, 3, 40, 0], b""),
                                     number(-1)])

    def test_refused_read_leaves_the_model_that_stood(self):
        for text in ("", "pit", model("0 1 1"), model(blocks="x"), model(blocks="10000:0\n"), FAULTLESS + "\n"):
            given = ask(read(EXAMPLE), read(text), write(), block(1, 0, 1), pit(10))
            self.assertLess(given[1][0], 0)
            self.assertEqual(given[2:], [(len(EXAMPLE), [], EXAMPLE.encode()), (0, [4, 4, 10, 0], b""),
                                         (4, [26, 1, 0, 1, 2, 4], b"")])

    def test_refused_read_leaves_none_where_none_stood(self):
        self.assertEqual(ask(read("pit"), write(), read(FAULTLESS[:-1]), block(0, 0, 0)),
                         [number(-3, 3), number(-8), number(-3, len(FAULTLESS) - 1), number(-8)])


if __name__ == "__main__":
    unittest.main()
