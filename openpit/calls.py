"""What each call answers. A call has its mine, its whole numbers, and its row (empty if it has none)."""

from openpit.fraction import lowest_terms
from openpit.masks import holds, blocks_in
from openpit.model import block_number, is_milled, worth_of_block, worth_of_blocks, first_stuck
from openpit.pits import best_pit
from openpit.reader import read_model, FormFault, NumberFault

READ = 1
HIGHEST_PRICE = 1000000

WRONG_ARGUMENT = -1
WRONG_FORM = -3
CANNOT_GO = -3
WRONG_NUMBER = -4
NO_MODEL = -8


def told(number):
    """An answer of a number alone, as a list of numbers."""
    return [number]


def told_list(number, numbers):
    """An answer of a number and a list, as a list of numbers."""
    if len(numbers) == 0:
        return told(number)
    return [number, len(numbers)] + numbers + [0]


def told_text(number, text):
    """An answer of a number and a text that isn't empty, as a list of numbers."""
    return [number, 0, len(text)] + text


def told_worth(mine, worth):
    """The fraction of a worth that's counted in E-ths."""
    return lowest_terms(worth, mine.model.kept_of)


def block_at(mine, numbers):
    """The number of the block at the place with which a call's numbers begin, None if there isn't one."""
    return block_number(mine.model, numbers[0], numbers[1], numbers[2])


def answer_read(mine, numbers, row):
    try:
        model = read_model(row)
    except FormFault as fault:
        return told_list(WRONG_FORM, [fault.place])
    except NumberFault as fault:
        return told_list(WRONG_NUMBER, [fault.place])
    mine.begin(model)
    return told(0)


def answer_write(mine, numbers, row):
    # A model has one text only, so the one that was read is the one to write.
    return told_text(len(mine.model.text), mine.model.text)


def answer_block(mine, numbers, row):
    block = block_at(mine, numbers)
    if block is None:
        return told(WRONG_ARGUMENT)
    gone = 1 if holds(mine.gone, block) else 0
    return told_list(0, [block, mine.model.tonnes[block], mine.model.metal[block], gone])


def answer_value(mine, numbers, row):
    block = block_at(mine, numbers)
    price = numbers[3]
    if block is None or price > HIGHEST_PRICE:
        return told(WRONG_ARGUMENT)
    milled = 1 if is_milled(mine.model, block, price) else 0
    return told_list(milled, told_worth(mine, worth_of_block(mine.model, block, price)))


def answer_over(mine, numbers, row):
    block = block_at(mine, numbers)
    if block is None:
        return told(WRONG_ARGUMENT)
    blocks = blocks_in(mine.model.over[block] & mine.left())
    return told_list(len(blocks), blocks)


def answer_pit(mine, numbers, row):
    price = numbers[0]
    if price > HIGHEST_PRICE:
        return told(WRONG_ARGUMENT)
    blocks = blocks_in(best_pit(mine.model, mine.left(), price))
    worth = told_worth(mine, worth_of_blocks(mine.model, blocks, price))
    return told_list(len(blocks), worth + blocks)


def answer_worth(mine, numbers, row):
    price = numbers[0]
    if price > HIGHEST_PRICE:
        return told(WRONG_ARGUMENT)
    stuck = first_stuck(mine.model, mine.gone, row)
    if stuck is not None:
        return told_list(CANNOT_GO, [stuck])
    return told_list(0, told_worth(mine, worth_of_blocks(mine.model, row, price)))


ANSWERS = {
    1: answer_read,
    2: answer_write,
    3: answer_block,
    4: answer_value,
    5: answer_over,
    6: answer_pit,
    7: answer_worth,
}


def answer_call(mine, call, numbers, row):
    """The answer to a call, by its number, as a list of numbers."""
    if mine.model is None and call != READ:
        return told(NO_MODEL)
    return ANSWERS[call](mine, numbers, row)
