"""A model's text: read in one way, or refused at its first fault."""

from openpit.model import Model

HEAD_LINES = (("pit", "XYZ"), ("slope", "S"), ("costs", "DC"), ("keeps", "NE"))
MOST_BLOCKS = 64
MOST_TONNES = 9999
MOST_METAL = 99999
# Above every number that may stand in a text: longer ones needn't be told apart.
TOO_MUCH = 1000000


class FormFault(Exception):
    """A byte that can't stand at this place, or a text that ends there too soon."""

    def __init__(self, place):
        self.place = place


class NumberFault(Exception):
    """A number that may not be; it begins at this place."""

    def __init__(self, place):
        self.place = place


class Scanner:
    """A text and how far it has been read."""

    def __init__(self, text):
        self.text = text
        self.place = 0

    def take_word(self, word):
        for sign in word:
            if self.at_end() or self.text[self.place] != ord(sign):
                raise FormFault(self.place)
            self.place += 1

    def take_number(self):
        """The number that stands here and the place where it begins."""
        begin = self.place
        value = 0
        while self.at_digit():
            if self.place > begin and self.text[begin] == ord("0"):
                raise FormFault(self.place)
            value = min(value * 10 + self.text[self.place] - ord("0"), TOO_MUCH)
            self.place += 1
        if self.place == begin:
            raise FormFault(begin)
        return (value, begin)

    def take_end(self):
        if not self.at_end():
            raise FormFault(self.place)

    def at_end(self):
        return self.place == len(self.text)

    def at_digit(self):
        return not self.at_end() and ord("0") <= self.text[self.place] <= ord("9")


def take_head(scanner):
    """The numbers of the first four lines, by name, each with its place."""
    found = {}
    for word, names in HEAD_LINES:
        scanner.take_word(word)
        for name in names:
            scanner.take_word(" ")
            found[name] = scanner.take_number()
        scanner.take_word("\n")
    return found


def check_head(found):
    """The head's numbers alone, by name, if all of them may be."""
    head = dict([(name, found[name][0]) for name in found])
    blocks = head["X"] * head["Y"] * head["Z"]
    # N has no row: it is looked at together with E, and told at E.
    rows = (
        ("X", 1 <= head["X"] <= 8),
        ("Y", 1 <= head["Y"] <= 8),
        ("Z", 1 <= head["Z"] <= 6 and blocks <= MOST_BLOCKS),
        ("S", head["S"] in (1, 5, 9)),
        ("D", head["D"] <= 9999),
        ("C", head["C"] <= 9999),
        ("E", 1 <= head["E"] <= 1000 and head["N"] <= head["E"]),
    )
    for name, may_be in rows:
        if not may_be:
            raise NumberFault(found[name][1])
    return head


def take_blocks(scanner, head):
    """T and M of each block, by its number, each with its place."""
    blocks = []
    for line in range(head["Y"] * head["Z"]):
        for x in range(head["X"]):
            if x > 0:
                scanner.take_word(" ")
            tonnes = scanner.take_number()
            scanner.take_word(":")
            blocks.append((tonnes, scanner.take_number()))
        scanner.take_word("\n")
    scanner.take_end()
    return blocks


def check_blocks(blocks):
    for tonnes, metal in blocks:
        if tonnes[0] > MOST_TONNES:
            raise NumberFault(tonnes[1])
        if metal[0] > MOST_METAL:
            raise NumberFault(metal[1])


def read_model(text):
    """The model that a text (a list of bytes) tells; a FormFault or a NumberFault if it tells none.

    Of several faults the document's order decides: the head's form, its numbers, the blocks' form, their numbers.
    """
    scanner = Scanner(text)
    head = check_head(take_head(scanner))
    blocks = take_blocks(scanner, head)
    check_blocks(blocks)
    tonnes = [block[0][0] for block in blocks]
    metal = [block[1][0] for block in blocks]
    return Model(head, tonnes, metal, text)
