"""The object that a list of calls speaks of."""

from openpit.masks import all_blocks, blocks_in, holds, set_of
from openpit.model import how_many_blocks
from openpit.pits import best_pit


class Mine:
    """A model with the set of what's gone of it, or none yet."""

    def __init__(self):
        self.model = None
        self.gone = 0
        # The set of each dig that can be taken back, the last one last.
        self.digs = []
        # The pits of what's left that were asked for, by price: the search for a price asks for many again.
        self.known_pits = {}

    def begin(self, model):
        self.model = model
        self.digs = []
        self.set_gone(0)

    def set_gone(self, gone):
        self.gone = gone
        self.known_pits = {}

    def left(self):
        """The set of the blocks that are left."""
        return all_blocks(how_many_blocks(self.model)) & ~self.gone

    def dig(self, blocks):
        """Digs these; all of them can go, and there is at least one."""
        self.digs.append(set_of(blocks))
        self.set_gone(self.gone | self.digs[-1])

    def undo(self):
        """Takes the last dig back and tells its blocks; there is one."""
        last = self.digs.pop()
        self.set_gone(self.gone & ~last)
        return blocks_in(last)

    def pit_at(self, price):
        """The set of the pit's blocks."""
        if price not in self.known_pits:
            self.known_pits[price] = best_pit(self.model, self.left(), price)
        return self.known_pits[price]

    def least_price(self, block, highest):
        """The least price up to the highest at which the block is in the pit, None if there is none.

        Pits lie one in another as the price rises, so one price tells of all below it or of all above it.
        """
        if not holds(self.pit_at(highest), block):
            return None
        low = 0
        high = highest
        while low < high:
            middle = (low + high) // 2
            if holds(self.pit_at(middle), block):
                high = middle
            else:
                low = middle + 1
        return low
