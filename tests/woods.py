"""Woods that several tests grow, and what the document says of each wood, whatever state it is in."""

import unittest

from ruleswood.entries import Entry
from ruleswood.fitting import fitted
from ruleswood.growing import Wood
from ruleswood.meetings import meetings
from ruleswood.order import Order
from ruleswood.steps import walked, worn
from ruleswood.terms import blanks, filled, part_at, places, put_at
from ruleswood.texts import read_pair, shown_pair

# By a name: the signs, and the pairs that are told. Growth of each of them is done.
DONE = {
    "none": ([("a", 0, 1)], []),
    "sums": (
        [("zero", 0, 1), ("s", 1, 1), ("plus", 2, 1)],
        ["plus(?0,zero) = ?0", "plus(?0,s(?1)) = s(plus(?0,?1))"],
    ),
    "monoid": (
        [("e", 0, 1), ("m", 2, 1)],
        ["m(e,?0) = ?0", "m(?0,e) = ?0", "m(m(?0,?1),?2) = m(?0,m(?1,?2))"],
    ),
    "three": (
        [("z", 0, 1), ("a", 1, 1), ("b", 1, 1)],
        ["a(a(?0)) = ?0", "b(b(?0)) = ?0", "a(b(a(?0))) = b(a(b(?0)))"],
    ),
    "four": (
        [("a", 1, 1), ("b", 1, 1), ("c", 1, 1)],
        ["a(a(?0)) = ?0", "b(b(?0)) = ?0", "c(c(?0)) = ?0", "a(b(a(?0))) = b(a(b(?0)))",
         "c(b(c(?0))) = b(c(b(?0)))", "a(c(?0)) = c(a(?0))"],
    ),
    "twice": ([("g", 1, 1), ("f", 1, 1), ("k", 1, 1), ("h", 1, 1)], ["f(f(?0)) = g(?0)", "h(h(?0)) = k(?0)"]),
    "central": ([("f", 2, 1)], ["f(f(?0,?1),f(?1,?2)) = ?1"]),
    "loop": (
        [("m", 2, 1), ("l", 2, 1), ("r", 2, 1)],
        ["m(?0,l(?0,?1)) = ?1", "l(?0,m(?0,?1)) = ?1", "m(r(?0,?1),?1) = ?0", "r(m(?0,?1),?1) = ?0"],
    ),
    "truth": (
        [("zero", 0, 1), ("one", 0, 1), ("not", 1, 1), ("and", 2, 1)],
        ["not(not(?0)) = ?0", "not(zero) = one", "and(?0,zero) = zero", "and(?0,one) = ?0", "and(zero,?0) = zero",
         "and(one,?0) = ?0", "and(?0,?0) = ?0", "and(?0,not(?0)) = zero"],
    ),
    "flat": ([("c", 0, 1), ("f", 1, 2), ("g", 2, 2)], ["f(?0) = g(?0,?1)", "g(?0,?1) = c"]),
    "same": ([("a", 0, 1), ("f", 2, 1), ("g", 1, 1)], ["f(?0,?1) = g(?0)", "f(?0,?0) = a"]),
    "five": ([("a", 0, 1), ("f", 1, 1)], ["f(f(f(f(f(a))))) = a", "f(f(f(a))) = a"]),
    "wide": (
        [("a", 0, 1), ("b", 0, 2), ("p", 2, 1), ("q", 4, 1)],
        ["q(?3,?2,?1,?0) = p(?1,?2)", "q(a,?0,?0,?7) = b", "p(b,?5) = b"],
    ),
}
# The same, but growth ends otherwise.
NOT_DONE = {
    "swap": ([("zero", 0, 1), ("plus", 2, 1)], ["plus(?0,zero) = ?0", "plus(?0,?1) = plus(?1,?0)"]),
    "unlike blanks": ([("f", 1, 1), ("g", 1, 1)], ["f(?0) = g(?1)"]),
    "late": ([("c", 0, 1), ("d", 0, 1), ("h", 3, 1), ("p", 2, 1)],
             ["h(c,?0,?1) = p(?0,?1)", "h(?0,c,?1) = p(?1,?0)"]),
    "idempotent": ([("f", 2, 1)], ["f(f(?0,?1),?2) = f(?0,f(?1,?2))", "f(?0,?0) = ?0"]),
    "group": ([("e", 0, 1), ("m", 2, 1), ("i", 1, 1)],
              ["m(e,?0) = ?0", "m(i(?0),?0) = e", "m(m(?0,?1),?2) = m(?0,m(?1,?2))"]),
}


def read_pairs(lines):
    return [read_pair(line) for line in lines]


def sown(signs, lines, *bounds):
    """A wood that has not grown yet."""
    return Wood(Order(signs), read_pairs(lines), *bounds)


def grown(signs, lines, *bounds):
    """A wood that has grown until its state is another one than growing."""
    wood = sown(signs, lines, *bounds)
    while wood.grow(400) == "growing":
        pass
    return wood


def entry(number, line):
    return Entry(number, *read_pair(line), [])


def lines_of(rules):
    """The texts of rules, in the order in which they stand in the list."""
    return [shown_pair(rule.left, rule.right) for rule in rules]


def stands_in(left, term):
    return any(fitted(left, part_at(term, place)) is not None for place in places(term))


def one_step_on(term, rules):
    """All terms to which one step leads, at any place and by any rule."""
    found = []
    for place in places(term):
        for rule in rules:
            filling = fitted(rule.left, part_at(term, place))
            if filling is not None:
                found.append(put_at(term, place, filled(rule.right, filling)))
    return found


def ends(term, rules):
    """All terms without a further step that any steps lead to."""
    found, seen, waiting = set(), {term}, [term]
    while waiting:
        term = waiting.pop()
        nexts = one_step_on(term, rules)
        if not nexts:
            found.add(term)
        waiting.extend(set(nexts) - seen)
        seen.update(nexts)
    return found


def end(term, rules, most=4000):
    """The term to which wearing down leads."""
    chain = worn(term, rules, most)
    return chain[-1][3] if chain else term


class WoodCase(unittest.TestCase):
    """Tests with what holds for each wood."""

    def assert_leads(self, book, start, chain, wanted):
        self.assertIsInstance(chain, list)
        for step in chain:
            self.assertIsInstance(step, tuple)
            self.assertIs(type(step[2]), bool)
        self.assertEqual(walked(book, start, chain), wanted)

    def assert_sound(self, wood, order, told):
        self.assert_book(wood, order, told)
        self.assert_rules(wood, order, told)
        self.assertIn(wood.state, ("growing", "done", "stuck", "enough"))
        if wood.state == "stuck":
            self.assert_odds(wood, order)
        else:
            self.assertIsNone(wood.odds)
        if wood.state == "done":
            self.assert_done(wood)

    def assert_book(self, wood, order, told):
        self.assertIsInstance(wood.book, list)
        self.assertEqual([(one.left, one.right) for one in wood.book[:len(told)]], told)
        for number, one in enumerate(wood.book):
            self.assertIsInstance(one, Entry)
            self.assertEqual(one.number, number)
            if number < len(told):
                self.assertEqual(one.chain, [])
            else:
                self.assertTrue(order.greater(one.left, one.right), lines_of([one]))
                self.assertEqual(blanks(one.left), list(range(len(blanks(one.left)))))
                self.assertTrue(one.chain)
                self.assertTrue(all(order.fits(step[3]) for step in one.chain))
                self.assert_leads(wood.book[:number], one.left, one.chain, one.right)

    def assert_rules(self, wood, order, told):
        self.assertIsInstance(wood.rules, list)
        numbers = [rule.number for rule in wood.rules]
        self.assertEqual(numbers, sorted(set(numbers)))
        self.assertTrue(all(number >= len(told) for number in numbers))
        for rule in wood.rules:
            self.assertIs(rule, wood.book[rule.number])
            self.assertTrue(order.greater(rule.left, rule.right))
            for other in wood.rules:
                if other.number != rule.number:
                    self.assertFalse(stands_in(other.left, rule.left), lines_of([other, rule]))

    def assert_odds(self, wood, order):
        self.assertIsInstance(wood.odds, tuple)
        one, other, chain = wood.odds
        self.assertEqual(order.told(one, other), "apart")
        self.assert_leads(wood.book, one, chain, other)
        self.assertEqual(one_step_on(one, wood.rules) + one_step_on(other, wood.rules), [])

    def assert_done(self, wood):
        for rule in wood.rules:
            self.assertEqual(one_step_on(rule.right, wood.rules), [])
            for other in wood.rules:
                for _, _, one, new in meetings(rule, other, 100):
                    self.assertEqual(end(one, wood.rules), end(new, wood.rules), lines_of([rule, other]))
        for one in wood.book:
            for filling in ({}, {0: 1, 1: 0}, {0: one.left, 1: ("a",)}):
                sides = [filled(side, filling) for side in (one.left, one.right)]
                self.assertEqual(end(sides[0], wood.rules), end(sides[1], wood.rules), lines_of([one]))

    def assert_told(self, wood, one, other, wanted):
        """Hold all that is told of two terms against the document, and return what was told."""
        told = wood.told(one, other, 400)
        self.assertIsInstance(told, tuple)
        word, forth, back = told
        self.assertEqual(word, wanted)
        if word == "alike":
            self.assert_leads(wood.book, one, forth, other)
            self.assertEqual(back, [])
            self.assertIsInstance(back, list)
        else:
            self.assertEqual(forth, worn(one, wood.rules, 400))
            self.assertEqual(back, worn(other, wood.rules, 400))
        return told
