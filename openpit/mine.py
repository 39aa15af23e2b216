"""The object that a list of calls speaks of."""

from openpit.masks import all_blocks
from openpit.model import how_many_blocks


class Mine:
    """A model with the set of what's gone of it, or none yet."""

    def __init__(self):
        self.model = None
        self.gone = 0

    def begin(self, model):
        self.model = model
        self.gone = 0

    def left(self):
        """The set of the blocks that are left."""
        return all_blocks(how_many_blocks(self.model)) & ~self.gone
