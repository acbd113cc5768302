"""Terms that several tests use."""


def nested(many, bottom, name="s"):
    """A term of `many` names, one round the other, round a bottom."""
    term = bottom
    for _ in range(many):
        term = (name, term)
    return term


def all_terms(signs, blanks, most):
    """All terms over the signs and blanks with at most so many names and blanks, the smallest first."""
    by_size = {1: list(blanks) + [(name,) for name, many, _ in signs if many == 0]}
    for whole in range(2, most + 1):
        by_size[whole] = [
            (name,) + parts
            for name, many, _ in signs if many > 0
            for parts in _rows(by_size, many, whole - 1)
        ]
    return [term for whole in range(1, most + 1) for term in by_size[whole]]


def _rows(by_size, many, whole):
    if many == 0:
        return [()] if whole == 0 else []
    return [
        (first,) + rest
        for taken in range(1, whole + 1)
        for first in by_size.get(taken, [])
        for rest in _rows(by_size, many - 1, whole - taken)
    ]
