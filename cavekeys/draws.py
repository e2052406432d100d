"""Numbers drawn, each from the state that the one before it left."""

# 2^64 - 1: anding with it keeps a product within 64 bits.
WORD = 18446744073709551615
FACTOR = 2685821657736338717


class Draws:
    def __init__(self, seed):
        self.state = seed

    def below(self, limit):
        state = self.state
        state = state ^ (state >> 12)
        state = state ^ ((state << 25) & WORD)
        state = state ^ (state >> 27)
        self.state = state
        return (((state * FACTOR) & WORD) >> 32) % limit
