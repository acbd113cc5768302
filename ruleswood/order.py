"""The order of terms, told by signs and their weights."""

from ruleswood.errors import BadOrder
from ruleswood.terms import MOST_PARTS, all_parts, is_name

MOST_SIGNS = 20
MOST_WEIGHT = 9
LAST_BLANK = 999


def _check_sign(name, many, weight):
    # The messages leave out the name: it may hold characters that are not ASCII.
    if not is_name(name):
        raise BadOrder("a name is one to eight small letters")
    if not 0 <= many <= MOST_PARTS:
        raise BadOrder("a sign has none to four parts")
    if not 1 <= weight <= MOST_WEIGHT:
        raise BadOrder("a sign weighs one to nine")


def _covers(one, other):
    """Tell whether each blank of the other term stands in the one at least as often."""
    spare = {}
    for part in all_parts(one):
        if isinstance(part, int):
            spare[part] = spare.get(part, 0) + 1
    for part in all_parts(other):
        if isinstance(part, int):
            if spare.get(part, 0) == 0:
                return False
            spare[part] -= 1
    return True


def _first_unlike(one, other):
    """Return the first parts of two terms that differ, or None."""
    for mine, its in zip(one[1:], other[1:]):
        if mine != its:
            return (mine, its)
    return None


class Order:
    """An order of terms; its signs are told with the least one first."""

    def __init__(self, signs):
        if not 1 <= len(signs) <= MOST_SIGNS:
            raise BadOrder("an order has one to twenty signs")
        self._ranks = {}
        self._parts = {}
        self._weights = {}
        for rank, (name, many, weight) in enumerate(signs):
            _check_sign(name, many, weight)
            if name in self._ranks:
                raise BadOrder("a name stands twice among the signs")
            self._ranks[name] = rank
            self._parts[name] = many
            self._weights[name] = weight

    def _knows(self, part):
        if isinstance(part, int):
            return 0 <= part <= LAST_BLANK
        return part[0] in self._parts and self._parts[part[0]] == len(part) - 1

    def _own_weight(self, part):
        if isinstance(part, int):
            return 1
        return self._weights[part[0]]

    def fits(self, term):
        """Tell whether each name is a sign with just so many parts, each blank one from 0 to 999."""
        return all([self._knows(part) for part in all_parts(term)])

    def weight(self, term):
        """Return the weight of all signs of a term together, and one for each blank."""
        return sum([self._own_weight(part) for part in all_parts(term)])

    def greater(self, one, other):
        """Tell whether one term is greater than another one."""
        # Each turn goes down to the first parts that differ; a loop, as terms may be deep.
        while _covers(one, other):
            more = self.weight(one) - self.weight(other)
            if more != 0:
                return more > 0
            if isinstance(one, int) or isinstance(other, int):
                return False
            if one[0] != other[0]:
                return self._ranks[one[0]] > self._ranks[other[0]]
            pair = _first_unlike(one, other)
            if pair is None:
                return False
            one, other = pair
        return False

    def told(self, one, other):
        """Return one of the texts same, greater, less, apart."""
        if one == other:
            return "same"
        if self.greater(one, other):
            return "greater"
        if self.greater(other, one):
            return "less"
        return "apart"
