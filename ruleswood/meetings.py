"""Meetings of rules: the terms on which two rules can step, and what each of the two makes of them."""

from ruleswood.errors import TooHeavy
from ruleswood.fitting import met
from ruleswood.terms import blanks, filled, name_places, part_at, put_at, size


def _blanks_of(rule):
    """List the blanks of both sides of a rule."""
    return blanks(("both", rule.left, rule.right))


def _anew(rule, other):
    """Return the filling that numbers the other rule's blanks anew, so that none is the first one's."""
    free = 1 + max(_blanks_of(rule), default=-1)
    return {blank: free + at for at, blank in enumerate(_blanks_of(other))}


def _places_to_meet(rule, other):
    """List the places of a rule's left side at which another rule may meet it."""
    found = name_places(rule.left)
    if rule.number == other.number:
        # The last one is (), where a rule would always meet itself.
        found.pop()
    return found


def meetings(rule, other, most):
    """List the meetings of a rule with another one.

    Each is told as the term on which both can step; the place where the other one steps; what the first one makes
    of it, stepping at (); and what the other one makes of it.
    """
    anew = _anew(rule, other)
    left, right = filled(other.left, anew), filled(other.right, anew)
    found = []
    for place in _places_to_meet(rule, other):
        filling = met(part_at(rule.left, place), left, most)
        if filling is not None:
            term = filled(rule.left, filling)
            if size(term) > most:
                raise TooHeavy("the term of a meeting has more names and blanks than told")
            new = put_at(term, place, filled(right, filling))
            found.append((term, place, filled(rule.right, filling), new))
    return found
