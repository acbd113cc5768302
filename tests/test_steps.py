"""Points 11 and 12: steps, chains of steps, and chains turned."""

import copy
import itertools
import unittest

from ruleswood.fitting import fitted
from ruleswood.steps import step_fits, turned, walked
from ruleswood.terms import part_at, places, put_at
from ruleswood.texts import read, read_pair
from tests.samples import all_terms, nested
from tests.woods import entry

A, B, C = ("a",), ("b",), ("c",)
SIDES = read_pair("plus(?0,s(?1)) = s(plus(?0,?1))")
BOOK = [entry(0, "f(?0) = g(?0)"), entry(1, "g(a) = b"), entry(2, "h(?0,?1) = f(?1)")]
CHAIN = [
    (0, (1,), True, read("h(g(a),f(a))")),
    (1, (1,), True, read("h(b,f(a))")),
    (2, (), True, read("f(f(a))")),
    (0, (1,), True, read("f(g(a))")),
    (0, (), True, read("g(g(a))")),
    (0, (1,), False, read("g(f(a))")),
]
START = read("h(f(a),f(a))")


def fits(line, before, place, after):
    left, right = read_pair(line)
    return step_fits(left, right, read(before), place, read(after))


class StepFitsTest(unittest.TestCase):
    def test_at_the_root(self):
        self.assertIs(fits("f(?0) = ?0", "f(a)", (), "a"), True)
        self.assertIs(fits("f(?0) = ?0", "f(a)", (), "b"), False)
        self.assertIs(fits("f(?0) = ?0", "g(a)", (), "a"), False)
        self.assertIs(fits("a = b", "a", (), "b"), True)
        self.assertIs(fits("a = b", "b", (), "a"), False)

    def test_within(self):
        self.assertIs(fits("a = b", "h(f(a),a)", (1, 1), "h(f(b),a)"), True)
        self.assertIs(fits("a = b", "h(f(a),a)", (2,), "h(f(a),b)"), True)
        self.assertIs(fits("plus(?0,s(?1)) = s(plus(?0,?1))", "h(a,plus(b,s(a)))", (2,), "h(a,s(plus(b,a)))"), True)

    def test_what_stands_elsewhere_differs(self):
        self.assertIs(fits("a = b", "h(f(a),a)", (1, 1), "h(f(b),b)"), False)
        self.assertIs(fits("a = b", "h(f(a),a)", (1, 1), "h(g(b),a)"), False)
        self.assertIs(fits("a = b", "h(f(a),?0)", (1, 1), "h(f(b),?1)"), False)
        self.assertIs(fits("a = b", "f(a)", (1,), "f(b,b)"), False)
        self.assertIs(fits("a = b", "h(a,a)", (2,), "h(b,b)"), False)

    def test_the_wrong_place(self):
        self.assertIs(fits("a = b", "h(f(a),a)", (2,), "h(f(b),a)"), False)
        self.assertIs(fits("a = b", "h(f(a),a)", (1,), "h(f(b),a)"), False)
        self.assertIs(fits("a = b", "h(f(a),a)", (), "h(f(b),a)"), False)

    def test_a_place_that_one_of_both_has_not(self):
        for place in ((1, 1), (1, 1, 1), (2,), (0,), (3,), (-1,), (5,)):
            self.assertIs(fits("?0 = ?0", "f(a)", place, "f(a)"), False)
        # The first has it, the second has not; and the other way round.
        self.assertIs(fits("f(?0) = ?0", "f(f(a))", (1, 1), "f(a)"), False)
        self.assertIs(fits("?0 = f(?0)", "f(a)", (1, 1), "f(f(a))"), False)
        self.assertIs(fits("a = b", "f(a)", (1,), "b"), False)
        self.assertIs(fits("a = b", "a", (1,), "f(b)"), False)
        self.assertIs(fits("a = b", "?0", (1,), "?0"), False)
        self.assertIs(fits("a = b", "h(a,a)", (2,), "h(b)"), False)

    def test_either_direction(self):
        left, right = SIDES
        before, after = read("s(plus(a,s(b)))"), read("s(s(plus(a,b)))")
        self.assertIs(step_fits(left, right, before, (1,), after), True)
        self.assertIs(step_fits(right, left, after, (1,), before), True)
        self.assertIs(step_fits(right, left, before, (1,), after), False)
        self.assertIs(step_fits(left, right, after, (1,), before), False)

    def test_blanks_that_only_the_right_side_has(self):
        self.assertIs(fits("f(?0) = h(?0,?1)", "f(a)", (), "h(a,b)"), True)
        self.assertIs(fits("f(?0) = h(?0,?1)", "f(a)", (), "h(a,?1)"), True)
        self.assertIs(fits("f(?0) = h(?0,?1)", "f(a)", (), "h(b,b)"), False)
        self.assertIs(fits("a = h(?1,?1)", "a", (), "h(f(b),f(b))"), True)
        self.assertIs(fits("a = h(?1,?1)", "a", (), "h(f(b),f(a))"), False)
        self.assertIs(fits("a = ?3", "a", (), "f(b)"), True)
        self.assertIs(fits("?3 = a", "f(b)", (), "a"), True)

    def test_the_same_blank_on_both_sides_with_unlike_parts(self):
        self.assertIs(fits("f(?0) = g(?0)", "f(a)", (), "g(b)"), False)
        self.assertIs(fits("f(?0) = g(?0)", "f(a)", (), "g(a)"), True)
        self.assertIs(fits("f(?0) = g(?0)", "f(?0)", (), "g(?1)"), False)
        self.assertIs(fits("f(?0) = g(?1)", "f(a)", (), "g(b)"), True)
        self.assertIs(fits("h(?0,?0) = ?0", "h(a,b)", (), "a"), False)
        self.assertIs(fits("?0 = ?0", "h(a,b)", (1,), "h(a,b)"), True)
        self.assertIs(fits("?0 = ?0", "h(a,b)", (1,), "h(b,b)"), False)
        self.assertIs(fits("?0 = ?1", "h(a,b)", (1,), "h(b,b)"), True)

    def test_blanks_of_the_terms_are_other_ones(self):
        self.assertIs(fits("f(?0,?1) = f(?1,?0)", "f(?1,g(?0))", (), "f(g(?0),?1)"), True)
        self.assertIs(fits("f(?0) = ?0", "f(?5)", (), "?5"), True)
        self.assertIs(fits("f(?5) = ?5", "f(?0)", (), "?5"), False)

    def test_ninety_and_two_hundred_deep(self):
        for many in (90, 198):
            left, right = ("s", 0), ("t", 0)
            for at in (0, 1, many // 2, many - 1):
                place = (1,) * at
                before = nested(many, A)
                after = put_at(before, place, ("t", part_at(before, place)[1]))
                self.assertIs(step_fits(left, right, before, place, after), True)
                self.assertIs(step_fits(right, left, after, place, before), True)
                self.assertIs(step_fits(left, right, before, place + (1,), after), False)
                self.assertIs(step_fits(left, right, before, place, nested(many, B)), False)
            self.assertIs(step_fits(nested(many, 0), 0, nested(many, A), (), A), True)
            self.assertIs(step_fits(0, nested(many, 0), A, (), nested(many, A)), True)
            self.assertIs(step_fits(A, B, nested(many, A), (1,) * many, nested(many, B)), True)
            self.assertIs(step_fits(A, B, nested(many, A), (1,) * (many + 1), nested(many, B)), False)

    def test_all_small_steps(self):
        """By the words of point 11: the sides, filled, stand there, and elsewhere both terms are the same."""
        terms = all_terms([("a", 0, 1), ("s", 1, 1), ("p", 2, 1)], [0], 3)
        patterns = [(0, A), (("s", 0), 0), (("p", 0, 1), ("p", 1, 0)), (("s", 0), ("s", 1)), (A, ("s", 0)), (0, 0)]
        seen = set()
        for left, right in patterns + [pair[::-1] for pair in patterns]:
            for before, after in itertools.product(terms, terms):
                for place in [(), (1,), (2,), (1, 1), (3,)]:
                    told = step_fits(left, right, before, place, after)
                    self.assertIs(told, self.plainly(left, right, before, place, after))
                    seen.add(told)
        self.assertEqual(seen, {True, False})

    def plainly(self, left, right, before, place, after):
        if place not in places(before) or place not in places(after):
            return False
        old, new = part_at(before, place), part_at(after, place)
        one, other = fitted(left, old), fitted(right, new)
        if one is None or other is None or put_at(before, place, B) != put_at(after, place, B):
            return False
        return all(one[blank] == other[blank] for blank in one if blank in other)


class WalkedTest(unittest.TestCase):
    def test_an_empty_chain(self):
        for start in (A, 0, 999, START, nested(199, 0)):
            self.assertEqual(walked(BOOK, start, []), start)
            self.assertEqual(walked([], start, []), start)

    def test_a_chain(self):
        for many in range(len(CHAIN) + 1):
            wanted = ([START] + [step[3] for step in CHAIN])[many]
            self.assertEqual(walked(BOOK, START, CHAIN[:many]), wanted)

    def test_a_step_that_leads_to_a_blank(self):
        book = [entry(0, "f(?0) = ?0")]
        self.assertEqual(walked(book, ("f", 0), [(0, (), True, 0)]), 0)
        self.assertEqual(walked(book, 0, [(0, (), False, ("f", 0))]), ("f", 0))

    def test_an_entry_that_is_not_in_the_book(self):
        book = [entry(0, "a = b")]
        self.assertEqual(walked(book, A, [(0, (), True, B)]), B)
        for number in (1, 2, 400, -1, -2):
            self.assertIsNone(walked(book, A, [(number, (), True, B)]))
        self.assertIsNone(walked([], A, [(0, (), True, B)]))
        self.assertIsNone(walked(book, A, [(0, (), True, B), (1, (), False, A)]))
        self.assertIsNone(walked(book + book, A, [(2, (), True, B)]))
        self.assertIsNone(walked(book + book, A, [(-2, (), True, B)]))

    def test_the_number_is_the_place_in_the_list(self):
        book = [entry(0, "a = b"), entry(1, "b = c")]
        self.assertEqual(walked(book, B, [(1, (), True, C)]), C)
        self.assertIsNone(walked(book, B, [(0, (), True, C)]))
        self.assertIsNone(walked(book[:1], B, [(1, (), True, C)]))

    def test_a_step_turned(self):
        book = [entry(0, "a = b")]
        self.assertEqual(walked(book, B, [(0, (), False, A)]), A)
        self.assertIsNone(walked(book, B, [(0, (), True, A)]))
        self.assertIsNone(walked(book, A, [(0, (), False, B)]))

    def test_a_place_that_is_not_there(self):
        for place in ((1,), (0,), (-1,), (1, 1)):
            self.assertIsNone(walked([entry(0, "?0 = ?0")], A, [(0, place, True, A)]))
        self.assertEqual(walked([entry(0, "?0 = ?0")], A, [(0, (), True, A)]), A)

    def test_one_wrong_step_anywhere(self):
        for at, (number, place, forth, after) in enumerate(CHAIN):
            for wrong in ((5 - number, place, forth, after), (number, place + (1,), forth, after),
                          (number, place, not forth, after), (number, place, forth, C)):
                self.assertIsNone(walked(BOOK, START, CHAIN[:at] + [wrong] + CHAIN[at + 1:]))
                self.assertIsNone(walked(BOOK, START, CHAIN[:at] + [wrong]))
        self.assertIsNone(walked(BOOK, START, CHAIN[1:]))
        self.assertIsNone(walked(BOOK, read("h(a,f(a))"), CHAIN))

    def test_a_wrong_step_behind_which_all_is_right(self):
        book = [entry(0, "a = b"), entry(1, "b = c")]
        self.assertIsNone(walked(book, C, [(0, (), True, B), (1, (), True, C)]))
        self.assertIsNone(walked(book, A, [(1, (), True, B), (1, (), True, C)]))

    def test_two_hundred_deep(self):
        book = [entry(0, "s(?0) = t(?0)")]
        start, chain, term = nested(199, A), [], nested(199, A)
        for at in range(199):
            place = (1,) * at
            term = put_at(term, place, ("t", part_at(term, place)[1]))
            chain.append((0, place, True, term))
        self.assertEqual(walked(book, start, chain), nested(199, A, "t"))
        self.assertIsNone(walked(book, start, chain[::-1]))
        self.assertEqual(walked(book, nested(199, A, "t"), turned(start, chain)), start)

    def test_what_was_handed_in_stays(self):
        book, chain = list(BOOK), list(CHAIN)
        before = copy.deepcopy(([vars(one) for one in book], chain))
        walked(book, START, chain)
        turned(START, chain)
        self.assertEqual(([vars(one) for one in book], chain), before)
        self.assertEqual(book, BOOK)


class TurnedTest(unittest.TestCase):
    def test_an_empty_chain(self):
        self.assertEqual(turned(START, []), [])

    def test_one_step(self):
        self.assertEqual(turned(A, [(3, (), True, B)]), [(3, (), False, A)])
        self.assertEqual(turned(A, [(3, (2, 1), False, B)]), [(3, (2, 1), True, A)])

    def test_several_steps(self):
        chain = [(0, (), True, B), (1, (1,), False, C), (2, (2,), True, A)]
        wanted = [(2, (2,), False, C), (1, (1,), True, B), (0, (), False, C)]
        self.assertEqual(turned(C, chain), wanted)
        self.assertIs(turned(C, chain)[0][2], False)
        self.assertIs(turned(C, chain)[1][2], True)

    def test_it_leads_back(self):
        for many in range(len(CHAIN) + 1):
            chain = CHAIN[:many]
            end = walked(BOOK, START, chain)
            self.assertEqual(walked(BOOK, end, turned(START, chain)), START)
            self.assertEqual(turned(end, turned(START, chain)), chain)

    def test_the_list_is_the_callers_own(self):
        chain = list(CHAIN)
        told = turned(START, chain)
        told.clear()
        self.assertEqual(chain, CHAIN)
        empty = []
        turned(START, empty).append(None)
        self.assertEqual(empty, [])
        told = turned(START, chain)
        chain.clear()
        self.assertEqual(len(told), len(CHAIN))

    def test_four_hundred_steps(self):
        book, place = [entry(0, "a = b"), entry(1, "b = a")], (1,) * 47
        there, back = (0, place, True, nested(47, B)), (1, place, True, nested(47, A))
        chain = [there, back] * 200
        start = nested(47, A)
        self.assertEqual(walked(book, start, chain), start)
        self.assertEqual(walked(book, start, turned(start, chain)), start)
        self.assertIsNone(walked(book, start, chain[:399] + [there]))
        self.assertEqual(turned(start, chain)[0], (1, place, False, nested(47, B)))


if __name__ == "__main__":
    unittest.main()
