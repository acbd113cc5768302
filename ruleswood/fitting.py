"""Fillings by which a pattern makes a term, or by which two terms meet.

Nothing here calls itself, so that the depth of a term is bounded by no stack of calls.
"""

from ruleswood.errors import TooHeavy


def _alike_on_top(one, other):
    """Tell whether two terms that are no blanks have the same name and as many parts."""
    return one[0] == other[0] and len(one) == len(other)


def fitted(pattern, term):
    """Return the filling of just the pattern's blanks that makes the term, or None."""
    filling = {}
    waiting = [(pattern, term)]
    while waiting:
        mine, its = waiting.pop()
        if isinstance(mine, int):
            if filling.setdefault(mine, its) != its:
                return None
        elif isinstance(its, int) or not _alike_on_top(mine, its):
            return None
        else:
            # The last pair that waits is taken first, so they wait from the right.
            waiting.extend(list(zip(mine[:0:-1], its[:0:-1])))
    return filling


class Joint:
    """The parts of two terms by numbers, joined where a filling must make them the same.

    One of those that are joined, the top, stands for all of them: one with a name, if there is one. So what a
    filling would copy over and over is looked at once.
    """

    def __init__(self, one, other):
        self.parts = [one, other]
        # By the number of a part: that of its own first part. The others follow in a row.
        self._firsts = []
        while len(self._firsts) < len(self.parts):
            part = self.parts[len(self._firsts)]
            self._firsts.append(len(self.parts))
            if not isinstance(part, int):
                self.parts.extend(part[1:])
        # By the number of a part: that of one it is joined to, its own where it is the top.
        self._links = list(range(len(self.parts)))

    def top(self, number):
        """Return the number of the part that stands for a part."""
        while self._links[number] != number:
            # The way is made shorter for those who go it later.
            self._links[number] = self._links[self._links[number]]
            number = self._links[number]
        return number

    def inner(self, number):
        """List the numbers of the parts of a part."""
        part = self.parts[number]
        if isinstance(part, int):
            return []
        return [self._firsts[number] + k for k in range(len(part) - 1)]

    def like_blanks(self):
        """List pairs of numbers that join each blank with wherever else it stands."""
        pairs = []
        first_at = {}
        for number, part in enumerate(self.parts):
            if isinstance(part, int):
                pairs.append((first_at.setdefault(part, number), number))
        return pairs

    def join_both(self):
        """Join the two terms and all that follows from it; tell whether no two names forbid it."""
        waiting = self.like_blanks() + [(0, 1)]
        while waiting:
            one, other = waiting.pop()
            one, other = self.top(one), self.top(other)
            if one == other:
                continue
            mine, its = self.parts[one], self.parts[other]
            if isinstance(mine, int):
                self._links[one] = other
            elif isinstance(its, int):
                self._links[other] = one
            elif _alike_on_top(mine, its):
                self._links[one] = other
                waiting.extend(list(zip(self.inner(one), self.inner(other))))
            else:
                return False
        return True


def _built(joint):
    """Return by each top what it is filled to, and the size of that; None where one would stand within itself.

    The terms share their parts: so they are built fast, however large they are, but they are not to be walked
    through ahead of a look at their size.
    """
    built = {}
    begun = {}
    waiting = [joint.top(0)]
    while waiting:
        top = waiting[-1]
        inner = [joint.top(number) for number in joint.inner(top)]
        lacking = [number for number in inner if number not in built]
        if not lacking:
            waiting.pop()
            part = joint.parts[top]
            if not isinstance(part, int):
                part = (part[0],) + tuple([built[number][0] for number in inner])
            built[top] = (part, 1 + sum([built[number][1] for number in inner]))
        elif top in begun:
            # All that waits above the place where it was begun stands within it.
            return None
        else:
            begun[top] = True
            waiting.extend(lacking)
    return built


def met(one, other, most):
    """Return the most open filling that makes two terms the same, or None."""
    joint = Joint(one, other)
    if not joint.join_both():
        return None
    built = _built(joint)
    if built is None:
        return None
    filling = {}
    for number, part in enumerate(joint.parts):
        if isinstance(part, int):
            value, many = built[joint.top(number)]
            if value != part:
                if many > most:
                    raise TooHeavy("a value of the filling has more names and blanks than told")
                filling[part] = value
    return filling
