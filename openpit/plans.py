"""A plan: which block is dug in which period. Its entries are in two lists, of their periods and of their blocks."""

from openpit.model import first_stuck


def how_many_periods(periods):
    """The last period's number and one; 0 of no entries."""
    return max(periods, default=-1) + 1


def first_step_back(periods):
    """The place of the first entry of an earlier period than the one before it, None if there is none."""
    for place in range(1, len(periods)):
        if periods[place] < periods[place - 1]:
            return place
    return None


def first_wrong_entry(model, gone, periods, blocks):
    """The place of the first entry that steps back or whose block can't be dug in its turn, None if there is none."""
    places = [first_step_back(periods), first_stuck(model, gone, blocks)]
    return min([place for place in places if place is not None], default=None)


def sums_by_period(periods, amounts):
    """Of each period, from 0 on, the sum of its entries' amounts; 0 where it has no entry."""
    sums = [0] * how_many_periods(periods)
    for period, amount in zip(periods, amounts):
        sums[period] += amount
    return sums


def first_above(amounts, most):
    """The place of the first amount that's more than most, None if there is none."""
    for place, amount in enumerate(amounts):
        if amount > most:
            return place
    return None


def worth_today(worths, upper, lower):
    """The two numbers of a fraction: each period's worth times (upper / lower) to its number, added.

    From the last period back to the first: what comes later is worth upper / lower of it one period before.
    """
    total = 0
    parts = 1
    for worth in reversed(worths):
        parts = parts * lower
        total = total * upper + worth * parts
    return [total, parts]
