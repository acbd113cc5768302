"""Entries of a book."""


class Entry:
    """Two sides that are alike, and a chain of steps that shows it."""

    def __init__(self, number, left, right, chain):
        self.number = number
        self.left = left
        self.right = right
        # A list of its own: what becomes of the handed one later changes nothing here.
        self.chain = list(chain)
