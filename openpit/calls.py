"""What each call answers. A call has its mine, its whole numbers, and its row (empty if it has none)."""

from openpit.fraction import lowest_terms
from openpit.masks import holds, blocks_in
from openpit.model import block_number, is_milled, worth_of_block, worth_of_blocks, first_stuck
from openpit.plans import how_many_periods, first_wrong_entry, sums_by_period, first_above, worth_today
from openpit.reader import read_model, FormFault, NumberFault

READ = 1
HIGHEST_PRICE = 1000000
MOST_PRICES = 8
MOST_LOWER = 1000
MOST_PERIODS = 64

WRONG_ARGUMENT = -1
WRONG_FORM = -3
CANNOT_GO = -3
WRONG_NUMBER = -4
IS_GONE = -4
THERE_IS_NONE = -5
TOO_MANY_TONNES = -6
NO_MODEL = -8


def told(number):
    """An answer of a number alone, as a list of numbers."""
    return [number]


def told_list(number, numbers):
    """An answer of a number and a list, as a list of numbers."""
    if len(numbers) == 0:
        return told(number)
    return [number, len(numbers)] + numbers + [0]


def told_text(number, text):
    """An answer of a number and a text that isn't empty, as a list of numbers."""
    return [number, 0, len(text)] + text


def told_worth(mine, worth):
    """The fraction of a worth that's counted in E-ths."""
    return lowest_terms(worth, mine.model.kept_of)


def told_together(mine, blocks, price):
    """The fraction that blocks are worth together."""
    return told_worth(mine, worth_of_blocks(mine.model, blocks, price))


def block_at(mine, numbers):
    """The number of the block at the place with which a call's numbers begin, None if there isn't one."""
    return block_number(mine.model, numbers[0], numbers[1], numbers[2])


def answer_read(mine, numbers, row):
    try:
        model = read_model(row)
    except FormFault as fault:
        return told_list(WRONG_FORM, [fault.place])
    except NumberFault as fault:
        return told_list(WRONG_NUMBER, [fault.place])
    mine.begin(model)
    return told(0)


def answer_write(mine, numbers, row):
    # A model has one text only, so the one that was read is the one to write.
    return told_text(len(mine.model.text), mine.model.text)


def answer_block(mine, numbers, row):
    block = block_at(mine, numbers)
    if block is None:
        return told(WRONG_ARGUMENT)
    gone = 1 if holds(mine.gone, block) else 0
    return told_list(0, [block, mine.model.tonnes[block], mine.model.metal[block], gone])


def answer_value(mine, numbers, row):
    block = block_at(mine, numbers)
    price = numbers[3]
    if block is None or price > HIGHEST_PRICE:
        return told(WRONG_ARGUMENT)
    milled = 1 if is_milled(mine.model, block, price) else 0
    return told_list(milled, told_worth(mine, worth_of_block(mine.model, block, price)))


def answer_over(mine, numbers, row):
    block = block_at(mine, numbers)
    if block is None:
        return told(WRONG_ARGUMENT)
    blocks = blocks_in(mine.model.over[block] & mine.left())
    return told_list(len(blocks), blocks)


def answer_pit(mine, numbers, row):
    price = numbers[0]
    if price > HIGHEST_PRICE:
        return told(WRONG_ARGUMENT)
    blocks = blocks_in(mine.pit_at(price))
    return told_list(len(blocks), told_together(mine, blocks, price) + blocks)


def answer_worth(mine, numbers, row):
    price = numbers[0]
    if price > HIGHEST_PRICE:
        return told(WRONG_ARGUMENT)
    stuck = first_stuck(mine.model, mine.gone, row)
    if stuck is not None:
        return told_list(CANNOT_GO, [stuck])
    return told_list(0, told_together(mine, row, price))


def answer_shells(mine, numbers, row):
    if len(row) > MOST_PRICES or max(row, default=0) > HIGHEST_PRICE:
        return told(WRONG_ARGUMENT)
    shells = []
    for price in row:
        blocks = blocks_in(mine.pit_at(price))
        shells.append(len(blocks))
        shells.extend(told_together(mine, blocks, price))
    return told_list(len(row), shells)


def answer_from_price(mine, numbers, row):
    block = block_at(mine, numbers)
    if block is None:
        return told(WRONG_ARGUMENT)
    if holds(mine.gone, block):
        return told(IS_GONE)
    price = mine.least_price(block, HIGHEST_PRICE)
    if price is None:
        return told(THERE_IS_NONE)
    return told_list(0, [price])


def answer_dig(mine, numbers, row):
    stuck = first_stuck(mine.model, mine.gone, row)
    if stuck is not None:
        return told_list(CANNOT_GO, [stuck])
    # A dig of none is none: there's nothing of it to take back.
    if len(row) > 0:
        mine.dig(row)
    return told(len(row))


def answer_undo(mine, numbers, row):
    if len(mine.digs) == 0:
        return told(THERE_IS_NONE)
    return told(len(mine.undo()))


def answer_dug(mine, numbers, row):
    price = numbers[0]
    if price > HIGHEST_PRICE:
        return told(WRONG_ARGUMENT)
    blocks = blocks_in(mine.gone)
    tonnes = sum([mine.model.tonnes[block] for block in blocks])
    metal = sum([mine.model.metal[block] for block in blocks])
    return told_list(len(blocks), [tonnes, metal] + told_together(mine, blocks, price))


def plan_may_be(price, upper, lower, periods):
    """True if a plan's price, its rate (upper / lower) and how many periods it has may be."""
    if price > HIGHEST_PRICE or lower == 0 or lower > MOST_LOWER or upper > lower:
        return False
    return how_many_periods(periods) <= MOST_PERIODS


def answer_plan(mine, numbers, row):
    price = numbers[0]
    upper = numbers[1]
    lower = numbers[2]
    most = numbers[3]
    periods = row[0::2]
    blocks = row[1::2]
    if not plan_may_be(price, upper, lower, periods):
        return told(WRONG_ARGUMENT)
    wrong = first_wrong_entry(mine.model, mine.gone, periods, blocks)
    if wrong is not None:
        return told_list(CANNOT_GO, [wrong])
    tonnes = sums_by_period(periods, [mine.model.tonnes[block] for block in blocks])
    overfull = first_above(tonnes, most)
    if overfull is not None:
        return told_list(TOO_MANY_TONNES, [overfull])
    worths = sums_by_period(periods, [worth_of_block(mine.model, block, price) for block in blocks])
    today = worth_today(worths, upper, lower)
    # The worths are counted in E-ths of the model, which are taken account of last.
    return told_list(len(worths), lowest_terms(today[0], today[1] * mine.model.kept_of))


ANSWERS = {
    1: answer_read,
    2: answer_write,
    3: answer_block,
    4: answer_value,
    5: answer_over,
    6: answer_pit,
    7: answer_worth,
    8: answer_shells,
    9: answer_from_price,
    10: answer_dig,
    11: answer_undo,
    12: answer_dug,
    13: answer_plan,
}


def answer_call(mine, call, numbers, row):
    """The answer to a call, by its number, as a list of numbers."""
    if mine.model is None and call != READ:
        return told(NO_MODEL)
    return ANSWERS[call](mine, numbers, row)
