"""A model of the ground: its blocks, what lies over each, what each is worth."""

from openpit.masks import one_block, holds, blocks_in

# Of each slope: how far across and along the blocks right above lie.
STEPS = {
    1: ((0, 0),),
    5: ((0, 0), (-1, 0), (1, 0), (0, -1), (0, 1)),
    9: ((0, 0), (-1, 0), (1, 0), (0, -1), (0, 1), (-1, -1), (1, -1), (-1, 1), (1, 1)),
}


class Model:
    """What a model's text tells. head has the numbers X Y Z S D C N E by these names."""

    def __init__(self, head, tonnes, metal, text):
        self.width = head["X"]
        self.length = head["Y"]
        self.depth = head["Z"]
        self.slope = head["S"]
        self.dig_cost = head["D"]
        self.mill_cost = head["C"]
        self.kept = head["N"]
        self.kept_of = head["E"]
        self.tonnes = tonnes
        self.metal = metal
        self.text = text
        self.above = all_above(self)
        self.over = all_over(self.above)


def how_many_blocks(model):
    return model.width * model.length * model.depth


def block_number(model, x, y, z):
    """The number of the block at a place, None if there is no such place."""
    if 0 <= x < model.width and 0 <= y < model.length and 0 <= z < model.depth:
        return (z * model.length + y) * model.width + x
    return None


def right_above(model, x, y, z):
    """The set of the blocks right above a place."""
    above = 0
    for step in STEPS[model.slope]:
        block = block_number(model, x + step[0], y + step[1], z - 1)
        if block is not None:
            above = above | one_block(block)
    return above


def all_above(model):
    """Of each block, by its number, the set of those right above it."""
    above = []
    for z in range(model.depth):
        for y in range(model.length):
            for x in range(model.width):
                above.append(right_above(model, x, y, z))
    return above


def all_over(above):
    """Of each block the set of those that lie over it.

    Blocks of a higher level have lower numbers, so theirs are known before they are asked for.
    """
    over = []
    for mask in above:
        joined = mask
        for block in blocks_in(mask):
            joined = joined | over[block]
        over.append(joined)
    return over


# All worths below are counted in E-ths (model.kept_of): so they are whole and can be added as they are.


def worth_dug_away(model, block):
    return -model.dig_cost * model.tonnes[block] * model.kept_of


def worth_milled(model, block, price):
    cost = (model.dig_cost + model.mill_cost) * model.tonnes[block]
    return price * model.metal[block] * model.kept - cost * model.kept_of


def is_milled(model, block, price):
    return worth_milled(model, block, price) > worth_dug_away(model, block)


def worth_of_block(model, block, price):
    return max(worth_milled(model, block, price), worth_dug_away(model, block))


def worth_of_blocks(model, blocks, price):
    return sum([worth_of_block(model, block, price) for block in blocks])


def first_stuck(model, gone, blocks):
    """The place of the first of these, dug one behind the other, that can't go in its turn; None if all can.

    gone is the set of what's gone before them.
    """
    for place, block in enumerate(blocks):
        if block >= how_many_blocks(model) or holds(gone, block):
            return place
        if model.above[block] & ~gone != 0:
            return place
        gone = gone | one_block(block)
    return None
