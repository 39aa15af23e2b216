"""An open pit: which blocks of ground are worth digging at a price of the metal."""
