"""Points 1, 4 and 8: fitting a pattern to a term."""

import copy
import itertools
import unittest

from ruleswood.fitting import fitted
from ruleswood.terms import blanks, filled
from tests.samples import all_terms, nested

ZERO, ONE = ("zero",), ("one",)
SIGNS = [("z", 0, 1), ("o", 0, 1), ("s", 1, 1), ("p", 2, 1), ("t", 3, 1)]
SMALL = all_terms(SIGNS, [0, 1], 4)


def plain_fitted(pattern, term):
    """What each of the pattern's blanks would have to be, part by part."""
    if isinstance(pattern, int):
        return {pattern: term}
    if isinstance(term, int) or pattern[0] != term[0] or len(pattern) != len(term):
        return None
    whole = {}
    for mine, its in zip(pattern[1:], term[1:]):
        part = plain_fitted(mine, its)
        if part is None or any(whole.get(blank, part[blank]) != part[blank] for blank in part):
            return None
        whole.update(part)
    return whole


class FittedTest(unittest.TestCase):
    def assert_fits(self, pattern, term, filling):
        told = fitted(pattern, term)
        self.assertIsInstance(told, dict)
        self.assertEqual(told, filling)
        self.assertEqual(sorted(told), sorted(blanks(pattern)))
        self.assertEqual(filled(pattern, told), term)

    def test_a_pattern_that_is_a_blank(self):
        self.assert_fits(0, ZERO, {0: ZERO})
        self.assert_fits(999, ("plus", 0, ("neg", 1)), {999: ("plus", 0, ("neg", 1))})
        self.assert_fits(0, ("neg", 0), {0: ("neg", 0)})
        self.assert_fits(3, 5, {3: 5})

    def test_a_blank_that_stands_for_itself_is_told(self):
        self.assert_fits(0, 0, {0: 0})
        self.assert_fits(("plus", 0, 1), ("plus", 0, ZERO), {0: 0, 1: ZERO})
        self.assert_fits(("plus", 0, ("neg", 0)), ("plus", 0, ("neg", 0)), {0: 0})

    def test_unlike_blanks(self):
        self.assert_fits(("plus", 0, 1), ("plus", ZERO, ONE), {0: ZERO, 1: ONE})
        self.assert_fits(("plus", 0, 1), ("plus", ZERO, ZERO), {0: ZERO, 1: ZERO})
        self.assert_fits(("four", 3, 2, ("neg", 1), 0), ("four", 0, ZERO, ("neg", 3), ONE), {3: 0, 2: ZERO, 1: 3, 0: ONE})

    def test_the_same_blank_twice(self):
        self.assert_fits(("plus", 0, 0), ("plus", ("neg", 4), ("neg", 4)), {0: ("neg", 4)})
        self.assert_fits(("plus", 0, ("neg", 0)), ("plus", 1, ("neg", 1)), {0: 1})
        for term in (("plus", ZERO, ONE), ("plus", ("neg", 4), ("neg", 5)), ("plus", 0, 1), ("plus", 0, ZERO),
                     ("plus", ZERO, 0), ("plus", ("neg", 0), 0)):
            self.assertIsNone(fitted(("plus", 0, 0), term))
        self.assertIsNone(fitted(("four", 0, 1, 1, 0), ("four", ZERO, ONE, ONE, ONE)))
        self.assertIsNone(fitted(("plus", ("neg", 0), 0), ("plus", ("neg", ZERO), ONE)))

    def test_blanks_of_the_term_are_no_blanks_of_the_pattern(self):
        self.assert_fits(("plus", 0, 1), ("plus", 1, 0), {0: 1, 1: 0})
        self.assert_fits(("plus", 0, ("neg", 1)), ("plus", ("neg", 1), ("neg", 0)), {0: ("neg", 1), 1: 0})
        self.assert_fits(("plus", 0, 1), ("plus", ("neg", 0), ("neg", 1)), {0: ("neg", 0), 1: ("neg", 1)})

    def test_a_name_against_a_blank(self):
        self.assertIsNone(fitted(ZERO, 0))
        self.assertIsNone(fitted(("neg", 0), 0))
        self.assertIsNone(fitted(("neg", 0), 1))
        self.assertIsNone(fitted(("plus", 0, ZERO), ("plus", ZERO, 0)))
        self.assertIsNone(fitted(("plus", 0, ("neg", 0)), ("plus", 0, 0)))

    def test_unlike_names(self):
        self.assertIsNone(fitted(ZERO, ONE))
        self.assertIsNone(fitted(("plus", 0, 1), ("times", 0, 1)))
        self.assertIsNone(fitted(("plus", 0, ZERO), ("plus", ONE, ONE)))
        self.assertIsNone(fitted(("plus", ZERO, 0), ("plus", ONE, ONE)))
        self.assertIsNone(fitted(("neg", 0), ZERO))

    def test_the_same_name_with_another_number_of_parts(self):
        for pattern, term in itertools.permutations([("f",), ("f", 0), ("f", 0, 1), ("f", 0, 1, 2), ("f", 0, 0, 0, 0)], 2):
            self.assertIsNone(fitted(pattern, term))
            self.assertIsNone(fitted(("s", pattern), ("s", term)))

    def test_a_pattern_without_blanks(self):
        self.assert_fits(ZERO, ZERO, {})
        self.assert_fits(("plus", ZERO, ("neg", ONE)), ("plus", ZERO, ("neg", ONE)), {})
        self.assertIsNone(fitted(("plus", ZERO, ("neg", ONE)), ("plus", ZERO, ("neg", ZERO))))
        self.assertIsNone(fitted(("plus", ZERO, ZERO), ("plus", ZERO, 7)))
        self.assertIsNone(fitted(ZERO, ("neg", ZERO)))

    def test_two_hundred_deep(self):
        self.assert_fits(nested(199, 0), nested(199, ZERO), {0: ZERO})
        self.assert_fits(nested(199, ZERO), nested(199, ZERO), {})
        self.assert_fits(0, nested(199, ZERO), {0: nested(199, ZERO)})
        self.assert_fits(("p", 0, 0), ("p", nested(198, 1), nested(198, 1)), {0: nested(198, 1)})
        self.assertIsNone(fitted(nested(199, ZERO), nested(199, ONE)))
        self.assertIsNone(fitted(nested(199, ZERO), nested(199, 0)))
        self.assertIsNone(fitted(nested(200, 0), nested(199, 0)))
        self.assertIsNone(fitted(("p", 0, 0), ("p", nested(198, 1), nested(198, 2))))

    def test_somewhat_beyond_the_depth(self):
        self.assertEqual(fitted(nested(300, 5), nested(350, 5)), {5: nested(50, 5)})
        self.assertEqual(fitted(("p", 0, 0), ("p", nested(300, ZERO), nested(300, ZERO))), {0: nested(300, ZERO)})

    def test_what_was_handed_in_stays(self):
        pattern, term = ("plus", 0, ("neg", 1)), ("plus", ("neg", 1), ("neg", 0))
        before = copy.deepcopy((pattern, term))
        fitted(pattern, term)
        self.assertEqual((pattern, term), before)

    def test_the_dict_is_the_callers_own(self):
        pattern, term = ("plus", 0, ("neg", 1)), ("plus", ("neg", 1), ("neg", 0))
        for _ in range(3):
            told = fitted(pattern, term)
            self.assertEqual(told, {0: ("neg", 1), 1: 0})
            told[0] = ZERO
            told[7] = ONE
            del told[1]
        fitted(ZERO, ZERO)[0] = ONE
        self.assertEqual(fitted(ZERO, ZERO), {})

    def test_all_small_terms(self):
        seen = set()
        for pattern, term in itertools.product(SMALL, SMALL):
            told = fitted(pattern, term)
            self.assertEqual(told, plain_fitted(pattern, term), (pattern, term))
            seen.add(told is None)
            if told is not None:
                self.assertEqual(filled(pattern, told), term)
                self.assertEqual(sorted(told), sorted(blanks(pattern)))
        self.assertEqual(seen, {True, False})

    def test_each_instance_is_found_to_be_one(self):
        values = all_terms(SIGNS, [0, 1], 2)
        for pattern in SMALL:
            for one, other in itertools.product(values, values):
                filling = {blank: (one, other)[blank] for blank in blanks(pattern)}
                self.assertEqual(fitted(pattern, filled(pattern, filling)), filling)


if __name__ == "__main__":
    unittest.main()
