"""Pairs that can be spared, as the others tell their sides alike."""

from ruleswood.errors import TooLong
from ruleswood.growing import MOST_STEPS, Wood


def _tell_alike(order, pairs, pair, most):
    """Tell whether pairs, grown so many turns, tell the sides of another pair alike."""
    wood = Wood(order, pairs)
    wood.grow(most)
    one, other = pair
    try:
        return wood.told(one, other, MOST_STEPS)[0] == "alike"
    except TooLong:
        return False


def spared(order, pairs, most):
    """List the places of the pairs that are kept where those that can be spared are left out, the last one first."""
    # A pair that does not fit the order is refused wherever it stands: by the wood of the others, or as it is asked.
    kept = list(range(len(pairs)))
    for at in reversed(range(len(pairs))):
        others = [number for number in kept if number != at]
        if _tell_alike(order, [pairs[number] for number in others], pairs[at], most):
            kept = others
    return kept
