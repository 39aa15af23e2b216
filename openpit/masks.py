"""Sets of blocks as whole numbers: the bit with a block's number tells if the block is in it.

A model has at most 64 blocks, so a whole set is joined or cut with another in one step.
"""


def one_block(block):
    """The set of this block alone."""
    return 1 << block


def all_blocks(how_many):
    """The set of the blocks 0 to how_many - 1."""
    return (1 << how_many) - 1


def set_of(blocks):
    """The set of these blocks."""
    mask = 0
    for block in blocks:
        mask = mask | one_block(block)
    return mask


def holds(mask, block):
    """True if the block is in the set."""
    return (mask >> block) & 1 == 1


def lowest_block(mask):
    """The least number in a set that isn't empty."""
    return (mask & -mask).bit_length() - 1


def blocks_in(mask):
    """The numbers of the set's blocks, rising."""
    blocks = []
    while mask != 0:
        block = lowest_block(mask)
        blocks.append(block)
        mask = mask ^ one_block(block)
    return blocks
