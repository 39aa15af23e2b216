"""What the tests share: texts and calls put together, answers taken apart, slow answers of the tests' own."""

import re
from fractions import Fraction

from openpit.planner import answers

HIGHEST = 4294967295

EXAMPLE = "pit 3 1 2\nslope 5\ncosts 1 2\nkeeps 1 2\n4:0 4:0 4:0\n4:2 4:10 4:1\n"

SIDES = ((-1, 0), (1, 0), (0, -1), (0, 1))
CORNERS = ((-1, -1), (-1, 1), (1, -1), (1, 1))


# Calls

def read(text):
    data = list(text.encode("latin-1")) if isinstance(text, str) else list(text)
    return [1, len(data)] + data


def write():
    return [2]


def block(x, y, z):
    return [3, x, y, z]


def value(x, y, z, price):
    return [4, x, y, z, price]


def over(x, y, z):
    return [5, x, y, z]


def pit(price):
    return [6, price]


def worth(price, blocks):
    return [7, price, len(blocks)] + list(blocks)


def shells(prices):
    return [8, len(prices)] + list(prices)


def from_price(x, y, z):
    return [9, x, y, z]


def dig(blocks):
    return [10, len(blocks)] + list(blocks)


def undo():
    return [11]


def dug(price):
    return [12, price]


def plan(price, upper, lower, most, entries):
    """entries: pairs of a period and a block."""
    return [13, price, upper, lower, most, 2 * len(entries)] + [one for entry in entries for one in entry]


# Answers

def ask(*calls):
    """The answers to these calls, each as (number, list, text)."""
    return split(answers(sum(calls, [])))


def split(given):
    found = []
    at = 0
    while at < len(given):
        size = given[at]
        found.append(parts(given[at + 1:at + 1 + size]))
        at += 1 + size
    if at != len(given):
        raise AssertionError("the last answer is cut short")
    return found


def parts(answer):
    if len(answer) == 1:
        return (answer[0], [], b"")
    how_many = answer[1]
    numbers = answer[2:2 + how_many]
    text = answer[3 + how_many:]
    if len(numbers) != how_many or answer[2 + how_many] != len(text):
        raise AssertionError("an answer's counts don't fit")
    if not numbers and not text:
        raise AssertionError("an answer without list and text is its number alone")
    return (answer[0], numbers, bytes(text))


def number(how, at=None):
    """An answer of a number alone, or of a number and a list of one place."""
    return (how, [] if at is None else [at], b"")


def fraction(one):
    """The two numbers by which a fraction is told."""
    return [Fraction(one).numerator, Fraction(one).denominator]


# Models

class Ground:
    """A model as the tests see it."""

    def __init__(self, sizes, slope, costs, keeps, blocks):
        self.sizes = sizes
        self.slope = slope
        self.costs = costs
        self.keeps = keeps
        self.blocks = blocks

    def text(self):
        wide = self.sizes[0]
        cells = ["%d:%d" % cell for cell in self.blocks]
        rows = [" ".join(cells[k:k + wide]) for k in range(0, len(cells), wide)]
        head = ["pit %d %d %d" % self.sizes, "slope %d" % self.slope,
                "costs %d %d" % self.costs, "keeps %d %d" % self.keeps]
        return "\n".join(head + rows) + "\n"

    def worths(self, price):
        return [self.worth(k, price)[1] for k in range(len(self.blocks))]

    def worth(self, k, price):
        """(1 if it's milled, its worth), straight from the words."""
        tonnes, metal = self.blocks[k]
        away = Fraction(-self.costs[0] * tonnes)
        milled = Fraction(price * metal * self.keeps[0], self.keeps[1]) - sum(self.costs) * tonnes
        return (1, milled) if milled > away else (0, away)


def places(sizes):
    """The blocks' places, in the order of their numbers."""
    return [(x, y, z) for z in range(sizes[2]) for y in range(sizes[1]) for x in range(sizes[0])]


def above(sizes, slope):
    """Of each block the set of the numbers right above it."""
    all_places = places(sizes)
    steps = [(0, 0)] + (list(SIDES) if slope >= 5 else []) + (list(CORNERS) if slope == 9 else [])
    found = []
    for x, y, z in all_places:
        near = [(x + dx, y + dy, z - 1) for dx, dy in steps]
        found.append({all_places.index(place) for place in near if place in all_places})
    return found


def lying_over(sizes, slope):
    """Of each block the set of those that lie over it."""
    near = above(sizes, slope)
    found = []
    for mine in near:
        whole = set(mine)
        while True:
            more = whole.union(*[near[k] for k in whole])
            if more == whole:
                break
            whole = more
        found.append(whole)
    return found


def least_best_set(near, worths):
    """The most that a set is worth, and the least such set, by the greatest flow step for step upward."""
    size = len(worths)
    room = [{} for k in range(size + 2)]

    def way(a, b, much):
        room[a][b] = much
        room[b].setdefault(a, 0)

    endless = sum(abs(one) for one in worths) + 1
    for k, one in enumerate(worths):
        if one > 0:
            way(size, k, one)
        if one < 0:
            way(k, size + 1, -one)
        for other in near[k]:
            way(k, other, endless)
    while True:
        came = {size: None}
        queue = [size]
        for a in queue:
            for b in room[a]:
                if b not in came and room[a][b] > 0:
                    came[b] = a
                    queue.append(b)
        if size + 1 not in came:
            inside = sorted(k for k in came if k < size)
            return sum((worths[k] for k in inside), Fraction(0)), inside
        steps = []
        b = size + 1
        while came[b] is not None:
            steps.append((came[b], b))
            b = came[b]
        much = min(room[a][b] for a, b in steps)
        for a, b in steps:
            room[a][b] -= much
            room[b][a] += much


class Dice:
    """The tests' own numbers, always the same ones."""

    def __init__(self, seed):
        self.state = seed

    def roll(self, low, high):
        self.state = (self.state * 6364136223846793005 + 1442695040888963407) % 2 ** 64
        return low + (self.state >> 33) % (high - low + 1)

    def ground(self, sizes, slope, small):
        """A model; of small numbers, where many sets are worth the same, or of all sizes of numbers."""
        how_many = sizes[0] * sizes[1] * sizes[2]
        if small:
            costs = (self.roll(0, 2), self.roll(0, 2))
            low = self.roll(1, 3)
            keeps = (self.roll(0, low), low)
            blocks = [(self.roll(0, 3), self.roll(0, 4)) for k in range(how_many)]
        else:
            costs = (self.roll(0, 9999), self.roll(0, 9999))
            low = self.roll(1, 1000)
            keeps = (self.roll(0, low), low)
            blocks = [(self.roll(0, 9999), self.roll(0, 1) * self.roll(0, 99999)) for k in range(how_many)]
        return Ground(sizes, slope, costs, keeps, blocks)


# A text's fault, told by patterns: each part of the form may be missing if all behind it is.

NUMBER = "(?:0|[1-9][0-9]*)"


def pattern(form):
    """A pattern for all beginnings of a form; in the form # stands for a number."""
    whole = ""
    for sign in reversed(form):
        whole = "(?:" + (NUMBER if sign == "#" else re.escape(sign)) + whole + ")?"
    return re.compile(whole)


HEAD = "pit # # #\nslope #\ncosts # #\nkeeps # #\n"
HEAD_BEGINNING = pattern(HEAD)
HEAD_WHOLE = re.compile(HEAD.replace("#", "(" + NUMBER + ")"))


def fault(text):
    """The fault of a text of few blocks: (its number, its place), or None."""
    whole = HEAD_WHOLE.match(text)
    if whole is None:
        return (-3, HEAD_BEGINNING.match(text).end())
    x, y, z, s, d, c, n, e = [int(group) for group in whole.groups()]
    fits = [1 <= x <= 8, 1 <= y <= 8, 1 <= z <= 6 and x * y * z <= 64, s in (1, 5, 9), d <= 9999, c <= 9999,
            True, 1 <= e <= 1000 and n <= e]
    for group, fit in enumerate(fits, 1):
        if not fit:
            return (-4, whole.start(group))
    return blocks_fault(text, whole.end(), (x, y, z))


def blocks_fault(text, begin, sizes):
    form = (" ".join(["#:#"] * sizes[0]) + "\n") * sizes[1] * sizes[2]
    if re.fullmatch(form.replace("#", NUMBER), text[begin:]) is None:
        return (-3, begin + pattern(form).match(text[begin:]).end())
    for cell in re.finditer("([0-9]+):([0-9]+)", text[begin:]):
        for group, most in ((1, 9999), (2, 99999)):
            if int(cell.group(group)) > most:
                return (-4, begin + cell.start(group))
    return None
