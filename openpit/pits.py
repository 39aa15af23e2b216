"""The pit at a price: the least of those sets of blocks that are worth most.

Each block that's worth more than 0 pays for blocks below 0 that lie over it, as much as it has. A block that
has something left, however the payments are laid, is in the pit, with all over it and all who pay for these.
What no such block comes to is not: there everything that is earned goes into what has to go first.
"""

from openpit.masks import one_block, holds, lowest_block, blocks_in
from openpit.model import worth_of_block, how_many_blocks


class Payments:
    """What blocks have to give, what others lack, and who pays how much for whom."""

    def __init__(self, over, worths):
        self.over = over
        self.spare = [max(worth, 0) for worth in worths]
        self.lacking = [max(-worth, 0) for worth in worths]
        self.costly = 0
        for block, lack in enumerate(self.lacking):
            if lack > 0:
                self.costly = self.costly | one_block(block)
        self.unpaid = self.costly
        # Of each block: how much each one that pays for it pays.
        self.payers = [{} for worth in worths]


class Trail:
    """What one payer comes to: before has, of each block on the way, the one that led to it."""

    def __init__(self, reached):
        self.reached = reached
        self.before = {}
        self.goal = None


def search(payments, payer, pit):
    """The trail of a payer to the nearest block that isn't paid for in full, or to all that it comes to.

    A payer leads to the blocks over it, a block to those who pay for it: they may take their payment back, if
    this payer pays instead. What's in the pit already leads nowhere.
    """
    trail = Trail(pit | one_block(payer))
    waiting = [payer]
    turn = 0
    while turn < len(waiting) and trail.goal is None:
        giver = waiting[turn]
        turn += 1
        fresh = payments.over[giver] & ~trail.reached
        trail.reached = trail.reached | fresh
        unpaid = fresh & payments.unpaid
        if unpaid != 0:
            trail.goal = lowest_block(unpaid)
            trail.before[trail.goal] = giver
        else:
            waiting.extend(other_givers(payments, giver, fresh, trail))
    return trail


def other_givers(payments, giver, fresh, trail):
    """Those who pay for the blocks that giver led to and who weren't reached yet; the trail then has them.

    One that was reached as a block over another giver is not among them: what lies over it was reached as well.
    """
    others = []
    for block in blocks_in(fresh & payments.costly):
        trail.before[block] = giver
        for other in payments.payers[block]:
            if not holds(trail.reached, other):
                trail.reached = trail.reached | one_block(other)
                trail.before[other] = block
                others.append(other)
    return others


def route_back(trail, payer):
    """From the trail's goal back to the payer: a block, one that pays for it, a block, and so on."""
    route = [trail.goal]
    while route[-1] != payer:
        route.append(trail.before[route[-1]])
    return route


def pay_along(payments, trail, payer):
    """The payer pays for the trail's goal, through others where these stand between, as much as can be."""
    route = route_back(trail, payer)
    goal = trail.goal
    paid_before = [payments.payers[route[k + 1]][route[k]] for k in range(1, len(route) - 1, 2)]
    amount = min(paid_before + [payments.spare[payer], payments.lacking[goal]])
    for k in range(0, len(route), 2):
        payers = payments.payers[route[k]]
        payers[route[k + 1]] = payers.get(route[k + 1], 0) + amount
    for k in range(1, len(route) - 1, 2):
        take_back(payments.payers[route[k + 1]], route[k], amount)
    payments.spare[payer] -= amount
    payments.lacking[goal] -= amount
    if payments.lacking[goal] == 0:
        payments.unpaid = payments.unpaid ^ one_block(goal)


def take_back(payers, giver, amount):
    if payers[giver] == amount:
        payers.pop(giver)
    else:
        payers[giver] -= amount


def grown_pit(payments, payer, pit):
    """The pit with all that a payer comes to, if it keeps something; else the pit as it was."""
    while payments.spare[payer] > 0:
        trail = search(payments, payer, pit)
        if trail.goal is None:
            return trail.reached
        pay_along(payments, trail, payer)
    return pit


def best_pit(model, left, price):
    """The set of the pit's blocks, where left is the set of the blocks that are left."""
    over = [mask & left for mask in model.over]
    worths = [worth_of_block(model, block, price) for block in range(how_many_blocks(model))]
    payments = Payments(over, worths)
    pit = 0
    for block in blocks_in(left):
        pit = grown_pit(payments, block, pit)
    return pit
