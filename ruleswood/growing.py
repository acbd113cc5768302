"""Woods: pairs grown into rules, turn by turn."""

from ruleswood.entries import Entry
from ruleswood.errors import NoTerm, TooHeavy, TooLong
from ruleswood.meetings import meetings
from ruleswood.steps import can_step_on, end_of, turned, worn
from ruleswood.terms import blanks, filled
from ruleswood.texts import shown_pair

MOST_STEPS = 400
GROWING = "growing"
DONE = "done"
STUCK = "stuck"
ENOUGH = "enough"


def _own_step(entry):
    """Return the step from an entry's left side to its right one."""
    return (entry.number, (), True, entry.right)


def _numbered(number, left, right, chain):
    """Return an entry with the blanks numbered as they first stand from the left in the left side."""
    # Blanks that stand on the way alone stay as they are: a chain that is filled is a chain, even where two blanks
    # become the same one.
    anew = {blank: at for at, blank in enumerate(blanks(left))}
    chain = [(by, place, forth, filled(after, anew)) for by, place, forth, after in chain]
    return Entry(number, filled(left, anew), filled(right, anew), chain)


class Wood:
    """Pairs that are grown into rules, which lead downwards in an order."""

    def __init__(self, order, pairs, heaviest=60, most_entries=60):
        self.book = []
        self.rules = []
        self.state = GROWING
        self.odds = None
        self._order = order
        self._heaviest = heaviest
        self._most_entries = most_entries
        # The pairs that wait, the longest waiting first: their weight, both sides, and a chain.
        self._waiting = []
        # The numbers of the rules that were asked.
        self._asked = {}
        for left, right in pairs:
            self._check_fits(left)
            self._check_fits(right)
            self.book.append(Entry(len(self.book), left, right, []))
        for entry in self.book:
            self._let_wait(entry.left, entry.right, [_own_step(entry)])

    def _check_fits(self, term):
        if not self._order.fits(term):
            raise NoTerm("a term does not fit the order")

    def _let_wait(self, left, right, chain):
        weight = self._order.weight(left) + self._order.weight(right)
        self._waiting.append((weight, left, right, chain))

    def grow(self, most):
        """Take so many turns of growth at the most, and return the state behind them."""
        for _ in range(most):
            if self.state != GROWING:
                break
            self._take_turn()
        return self.state

    def _take_turn(self):
        unasked = [rule for rule in self.rules if rule.number not in self._asked]
        try:
            if self._waiting:
                self._settle_pair()
            elif unasked:
                self._ask(unasked)
            else:
                self._wear_right_sides()
        except (TooHeavy, TooLong):
            self.state = ENOUGH

    def _take_lightest(self):
        """Take out the lightest pair that waits, of several the one that waits longest."""
        weights = [row[0] for row in self._waiting]
        return self._waiting.pop(weights.index(min(weights)))

    def _settle_pair(self):
        _, left, right, chain = self._take_lightest()
        forth = worn(left, self.rules, MOST_STEPS)
        back = worn(right, self.rules, MOST_STEPS)
        chain = turned(left, forth) + chain + back
        one, other = end_of(left, forth), end_of(right, back)
        if one == other:
            return
        if self._order.greater(one, other):
            self._add_rule(one, other, chain)
        elif self._order.greater(other, one):
            self._add_rule(other, one, turned(one, chain))
        else:
            self.state = STUCK
            self.odds = (one, other, chain)

    def _add_rule(self, left, right, chain):
        if len(self.book) >= self._most_entries:
            self.state = ENOUGH
            return
        rule = _numbered(len(self.book), left, right, chain)
        self.book.append(rule)
        kept = []
        for old in self.rules:
            if can_step_on(rule, old.left):
                self._let_wait(old.left, old.right, [_own_step(old)])
            else:
                kept.append(old)
        self.rules = kept + [rule]

    def _ask(self, unasked):
        # Of several with the lightest left side min takes the first one, and that is the oldest.
        rule = min(unasked, key=lambda old: self._order.weight(old.left))
        asked = [other for other in self.rules if other.number in self._asked]
        self._asked[rule.number] = True
        self._meet(rule, rule)
        for other in asked:
            self._meet(rule, other)
            self._meet(other, rule)

    def _meet(self, rule, other):
        for term, place, one, new in meetings(rule, other, self._heaviest):
            if self._order.weight(term) > self._heaviest:
                raise TooHeavy("the term of a meeting weighs more than the heaviest")
            if one != new:
                self._let_wait(one, new, [(rule.number, (), False, term), (other.number, place, True, new)])

    def _wear_right_sides(self):
        # All are worn down ahead of the first new entry: where one wants too many steps, the rules stay as they are.
        chains = [worn(rule.right, self.rules, MOST_STEPS) for rule in self.rules]
        kept = []
        changed = []
        for rule, chain in zip(self.rules, chains):
            if chain:
                right = end_of(rule.right, chain)
                changed.append(Entry(len(self.book), rule.left, right, [_own_step(rule)] + chain))
                self.book.append(changed[-1])
            else:
                kept.append(rule)
        self.rules = kept + changed
        self.state = DONE

    def standing(self):
        """List both sides of each rule that stands, in the order of their texts."""
        sides = {shown_pair(rule.left, rule.right): (rule.left, rule.right) for rule in self.rules}
        return [sides[text] for text in sorted(sides)]

    def told(self, one, other, most):
        """Return alike, unlike or open, and two chains that show how far the rules lead."""
        self._check_fits(one)
        self._check_fits(other)
        forth = worn(one, self.rules, most)
        back = worn(other, self.rules, most)
        if end_of(one, forth) == end_of(other, back):
            return ("alike", forth + turned(other, back), [])
        if self.state == DONE:
            return ("unlike", forth, back)
        return ("open", forth, back)
