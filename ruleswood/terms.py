"""Terms: blanks (whole numbers), and tuples of a name and parts.

Nothing here calls itself, so that the depth of a term is bounded by no stack of calls.
"""

from ruleswood.errors import NoPlace

LONGEST_NAME = 8
MOST_PARTS = 4


def is_name(text):
    """Tell whether a text is one to eight small letters a to z."""
    # islower and isalpha would let letters by that are not ASCII.
    return 1 <= len(text) <= LONGEST_NAME and all(["a" <= letter <= "z" for letter in text])


def all_parts(term):
    """List the term and all parts within it: each part ahead of its own parts, from the left."""
    found = []
    waiting = [term]
    while waiting:
        part = waiting.pop()
        found.append(part)
        if not isinstance(part, int):
            # The last one that waits is taken first, so the parts wait from the right.
            waiting.extend(part[:0:-1])
    return found


def blanks(term):
    """List the blanks of a term, each once, as they first stand from the left."""
    return list({part: True for part in all_parts(term) if isinstance(part, int)})


def size(term):
    """Count the names and blanks of a term."""
    return len(all_parts(term))


def places(term):
    """List the places of a term from the left, those within a part ahead of the part's own."""
    found = []
    waiting = [((), term)]
    while waiting:
        place, part = waiting.pop()
        found.append(place)
        if not isinstance(part, int):
            for number in range(1, len(part)):
                waiting.append((place + (number,), part[number]))
    # Found from the right, each ahead of those within it: the wanted order, backwards.
    return found[::-1]


def name_places(term):
    """List the places of a term where no blank stands, in their order."""
    return [place for place in places(term) if not isinstance(part_at(term, place), int)]


def _numbered_part(term, number):
    # Item 0 is the name, and Python would take a number below 0 from the end.
    if isinstance(term, int) or not 1 <= number < len(term):
        raise NoPlace("the term has no such place")
    return term[number]


def part_at(term, place):
    """Return the part of a term at a place."""
    for number in place:
        term = _numbered_part(term, number)
    return term


def put_at(term, place, new):
    """Return the term with another part at a place."""
    wholes = []
    for number in place:
        wholes.append(term)
        term = _numbered_part(term, number)
    for whole, number in zip(wholes[::-1], place[::-1]):
        new = whole[:number] + (new,) + whole[number + 1:]
    return new


def filled(term, filling):
    """Return the term with the filling's terms for its blanks, all put in at once."""
    done = []
    # Backwards, so that the parts of a name are done ahead of it, its first one last.
    for part in all_parts(term)[::-1]:
        if isinstance(part, int):
            done.append(filling.get(part, part))
        else:
            start = len(done) - (len(part) - 1)
            parts = tuple(done[start:][::-1])
            del done[start:]
            done.append((part[0],) + parts)
    return done[0]
