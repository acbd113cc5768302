"""Steps from term to term by the sides of entries, chains of them, and wearing down."""

from ruleswood.errors import NoPlace, TooLong
from ruleswood.fitting import fitted
from ruleswood.terms import all_parts, filled, name_places, part_at, places, put_at


def step_fits(left, right, before, place, after):
    """Tell whether two sides turn a term into another one at a place."""
    try:
        old = part_at(before, place)
        new = part_at(after, place)
    except NoPlace:
        return False
    # Both sides in one pattern, as one filling must do for both.
    return put_at(before, place, new) == after and fitted(("both", left, right), ("both", old, new)) is not None


def _does_step(entry, before, place, forth, after):
    if forth:
        return step_fits(entry.left, entry.right, before, place, after)
    return step_fits(entry.right, entry.left, before, place, after)


def walked(book, start, chain):
    """Return the term to which a chain leads, or None where a step of it does not do what it says."""
    term = start
    for number, place, forth, after in chain:
        # Python would take a number below 0 from the end of the book.
        if not 0 <= number < len(book) or not _does_step(book[number], term, place, forth, after):
            return None
        term = after
    return term


def turned(start, chain):
    """Return the chain that leads from the end of a chain back to its start."""
    back = []
    before = start
    for number, place, forth, after in chain:
        back.append((number, place, not forth, before))
        before = after
    return back[::-1]


def end_of(start, chain):
    """Return the term to which a chain leads, if its steps do what they say."""
    if not chain:
        return start
    return chain[-1][3]


def _first_fitting(rules, part):
    """Return the first rule whose left side fits a part, with the filling, or None."""
    for rule in rules:
        filling = fitted(rule.left, part)
        if filling is not None:
            return (rule, filling)
    return None


def can_step_on(rule, term):
    """Tell whether a rule's left side fits anywhere in a term."""
    return any([fitted(rule.left, part) is not None for part in all_parts(term)])


def worn(term, rules, most):
    """Return the chain by which a list of rules wears a term down."""
    chain = []
    # The places that no rule was tried at since they last changed, the first one last. All others are those at
    # which none fits: so nothing that a step moves is looked through again, however large it has grown.
    waiting = places(term)[::-1]
    while waiting:
        place = waiting.pop()
        found = _first_fitting(rules, part_at(term, place))
        if found is not None:
            if len(chain) == most:
                raise TooLong("wearing down wants more steps than told")
            rule, filling = found
            term = put_at(term, place, filled(rule.right, filling))
            chain.append((rule.number, place, True, term))
            waiting.extend([place + inner for inner in name_places(rule.right)[::-1]])
    return chain
