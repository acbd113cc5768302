"""Points 1 and 9: the most open filling by which two terms meet."""

import copy
import itertools
import unittest

from ruleswood.errors import TooHeavy
from ruleswood.fitting import fitted, met
from ruleswood.terms import blanks, filled, size
from tests.samples import all_terms, nested

ZERO, ONE = ("zero",), ("one",)
SIGNS = [("z", 0, 1), ("s", 1, 1), ("p", 2, 1), ("t", 3, 1)]
SMALL = all_terms(SIGNS, [0, 1, 2], 4)
GROUND = all_terms(SIGNS, [], 4)


def plain_met(one, other):
    """A filling that is as open as can be, by the textbook: the first parts that differ, again and again."""
    filling = {}
    while True:
        unlike = first_unlike(filled(one, filling), filled(other, filling))
        if unlike is None:
            return filling
        blank, value = unlike if isinstance(unlike[0], int) else unlike[::-1]
        if not isinstance(blank, int) or blank in blanks(value):
            return None
        filling = {name: filled(term, {blank: value}) for name, term in filling.items()}
        filling[blank] = value


def first_unlike(one, other):
    """The first parts that differ and are not the same name with as many parts."""
    if one == other:
        return None
    if isinstance(one, int) or isinstance(other, int) or one[0] != other[0] or len(one) != len(other):
        return (one, other)
    return [first_unlike(mine, its) for mine, its in zip(one[1:], other[1:]) if mine != its][0]


def listed(terms):
    """A term in which all of them stand, one behind the other."""
    whole = ("end",)
    for term in terms[::-1]:
        whole = ("row", term, whole)
    return whole


def of_all(blank_list, filling):
    return listed([filling.get(blank, blank) for blank in blank_list])


class Meeting(unittest.TestCase):
    def assert_meets(self, one, other, told, most=100):
        """All that point 9 says of a filling, but for its being as open as can be."""
        self.assertIsInstance(told, dict)
        self.assertEqual(filled(one, told), filled(other, told))
        have = set(blanks(one)) | set(blanks(other))
        self.assertLessEqual(set(told), have)
        for value in told.values():
            self.assertFalse(set(blanks(value)) & set(told), told)
            self.assertLessEqual(set(blanks(value)), have)
            self.assertLessEqual(size(value), most)

    def assert_met(self, one, other, wanted, most=100):
        """They meet both ways by the wanted filling, or one that is as open."""
        have = blanks(("both", one, other))
        for mine, its in ((one, other), (other, one)):
            told = met(mine, its, most)
            self.assert_meets(mine, its, told, most)
            self.assertIsNotNone(fitted(of_all(have, told), of_all(have, wanted)), told)
            self.assertIsNotNone(fitted(of_all(have, wanted), of_all(have, told)), told)

    def assert_apart(self, one, other):
        self.assertIsNone(met(one, other, 100))
        self.assertIsNone(met(other, one, 100))

    def assert_heavy(self, one, other, most):
        for mine, its in ((one, other), (other, one)):
            with self.assertRaises(TooHeavy):
                met(mine, its, most)


class MetTest(Meeting):
    def test_the_same_terms(self):
        for term in (0, 999, ZERO, ("plus", 0, ("neg", 1)), ("plus", 0, 0), nested(199, 0), nested(199, ZERO)):
            self.assertEqual(met(term, term, 100), {})
            self.assertEqual(met(term, term, 1), {})

    def test_two_unlike_blanks(self):
        for most in (1, 2, 100):
            self.assertIn(met(0, 1, most), ({0: 1}, {1: 0}))
            self.assertIn(met(999, 5, most), ({999: 5}, {5: 999}))

    def test_a_blank_and_a_term_without_it(self):
        for term in (ZERO, ("neg", 1), ("plus", 1, ("plus", ZERO, 2)), nested(99, 1)):
            self.assertEqual(met(0, term, 100), {0: term})
            self.assertEqual(met(term, 0, 100), {0: term})

    def test_a_blank_and_a_term_with_it(self):
        for term in (("neg", 0), ("plus", 0, 0), ("plus", 1, ("neg", 0)), nested(199, 0), ("plus", 0, ("neg", 1))):
            self.assert_apart(0, term)

    def test_blanks_of_both_are_the_same_blanks(self):
        self.assertEqual(met(("neg", 0), ("neg", 0), 100), {})
        self.assert_apart(("plus", 0, 1), ("plus", ("neg", 0), 1))
        self.assert_met(("plus", 0, 1), ("plus", 1, ZERO), {0: ZERO, 1: ZERO})
        self.assert_met(("plus", 0, 1), ("plus", 1, 0), {0: 1})

    def test_blanks_of_either_term(self):
        self.assertEqual(met(("plus", 0, ONE), ("plus", ZERO, 1), 100), {0: ZERO, 1: ONE})
        self.assert_met(("plus", 0, 0), ("plus", 1, ("neg", 2)), {0: ("neg", 2), 1: ("neg", 2)})
        self.assert_met(("plus", 0, ("neg", 0)), ("plus", ("neg", 1), 2), {0: ("neg", 1), 2: ("neg", ("neg", 1))})
        self.assert_met(("four", 0, 1, 2, 3), ("four", 1, 2, 3, ZERO), {0: ZERO, 1: ZERO, 2: ZERO, 3: ZERO})
        self.assert_met(("four", 0, 1, 2, 3), ("four", 1, 2, 3, 0), {1: 0, 2: 0, 3: 0})

    def test_what_need_not_be_filled_is_not(self):
        self.assertEqual(met(("plus", 0, 1), ("plus", 0, ZERO), 100), {1: ZERO})
        self.assertEqual(met(("plus", 0, ("neg", 2)), ("plus", 0, ("neg", ONE)), 100), {2: ONE})

    def test_unlike_names_and_numbers_of_parts(self):
        self.assert_apart(ZERO, ONE)
        self.assert_apart(("neg", 0), ("suc", 0))
        self.assert_apart(("neg", 0), ZERO)
        self.assert_apart(("plus", 0, ZERO), ("plus", 1, ONE))
        self.assert_apart(("plus", 0, 0), ("plus", ZERO, ONE))
        self.assert_apart(("plus", 0, ("neg", 0)), ("plus", ZERO, ("neg", ONE)))
        for one, other in itertools.combinations([("f",), ("f", 0), ("f", 0, 1), ("f", 0, 1, 2), ("f", 0, 1, 2, 3)], 2):
            self.assert_apart(one, other)
            self.assert_apart(("g", one, 4), ("g", other, 4))
            self.assert_apart(("plus", 9, 9), ("plus", one, other))

    def test_a_chain_of_blanks_by_which_a_term_would_stand_within_itself(self):
        self.assert_apart(("plus", 0, 1), ("plus", ("neg", 1), ("neg", 0)))
        self.assert_apart(("plus", 0, 0), ("plus", 1, ("neg", 1)))
        self.assert_apart(("t", 0, 1, 2), ("t", ("neg", 1), ("neg", 2), ("neg", 0)))
        self.assert_apart(("t", 0, 1, 2), ("t", 1, 2, ("neg", 0)))
        self.assert_apart(("plus", ("neg", 0), 0), ("plus", 1, ("neg", 1)))
        many = 60
        ring = [("neg", (k + 1) % many) for k in range(many)]
        self.assert_apart(listed(list(range(many))), listed(ring))

    def test_a_long_chain_that_is_no_ring(self):
        many = 60
        steps = [("neg", k + 1) for k in range(many)]
        wanted = {k: nested(many - k, many, "neg") for k in range(many)}
        self.assert_met(listed(list(range(many))), listed(steps), wanted)
        self.assert_met(listed(list(range(many))[::-1]), listed(steps[::-1]), wanted)

    def test_blanks_beyond_999(self):
        self.assertEqual(met(("plus", 1000, ZERO), ("plus", ("neg", 0), 1999), 100), {1000: ("neg", 0), 1999: ZERO})

    def test_two_hundred_deep(self):
        self.assert_met(nested(199, 0), nested(100, 1), {1: nested(99, 0)})
        self.assert_met(nested(199, ZERO), nested(199, 0), {0: ZERO})
        self.assert_apart(nested(199, ZERO), nested(199, ONE))
        self.assert_apart(nested(199, ZERO), nested(198, ZERO))
        self.assert_apart(nested(199, 0), nested(100, 0))

    def test_what_was_handed_in_stays(self):
        one, other = ("plus", 0, ("neg", 1)), ("plus", ("neg", 1), 2)
        before = copy.deepcopy((one, other))
        met(one, other, 100)
        self.assertEqual((one, other), before)

    def test_the_dict_is_the_callers_own(self):
        one, other = ("plus", 0, ("neg", 1)), ("plus", ZERO, 2)
        for _ in range(3):
            told = met(one, other, 100)
            self.assertEqual(told, {0: ZERO, 2: ("neg", 1)})
            told[0] = ONE
            told[9] = ZERO
            del told[2]
        met(0, 0, 100)[1] = ONE
        self.assertEqual(met(0, 0, 100), {})


class TooHeavyTest(Meeting):
    def test_most_and_one_more(self):
        for most in (1, 2, 3, 50, 99, 100):
            self.assertEqual(met(0, nested(most - 1, ZERO), most), {0: nested(most - 1, ZERO)})
            self.assertEqual(met(nested(most - 1, ZERO), 0, most), {0: nested(most - 1, ZERO)})
            self.assert_met(0, nested(most - 1, 1), {0: nested(most - 1, 1)}, most)
            self.assert_heavy(0, nested(most, ZERO), most)
            self.assert_heavy(0, nested(most, 1), most)

    def test_blanks_and_names_count(self):
        term = ("plus", 1, ("plus", ZERO, 1))
        self.assertEqual(met(0, term, 5), {0: term})
        self.assert_heavy(0, term, 4)

    def test_what_blanks_in_a_value_are_filled_to_counts(self):
        one, other = ("plus", 0, 1), ("plus", ("neg", 1), ("neg", ZERO))
        self.assert_met(one, other, {0: ("neg", ("neg", ZERO)), 1: ("neg", ZERO)}, 3)
        self.assert_heavy(one, other, 2)

    def test_each_value_counts_by_itself_and_the_terms_do_not(self):
        one = ("four", 0, 1, 2, nested(150, 3))
        other = ("four", nested(3, ZERO), nested(3, ONE), nested(3, ZERO), nested(150, ONE))
        self.assertEqual(met(one, other, 4), {0: nested(3, ZERO), 1: nested(3, ONE), 2: nested(3, ZERO), 3: ONE})
        self.assert_heavy(one, other, 3)

    def test_the_last_value_alone_is_too_heavy(self):
        for at in range(4):
            values = [ZERO] * 4
            values[at] = nested(10, ZERO)
            self.assert_heavy(("four", 0, 1, 2, 3), ("four",) + tuple(values), 10)
            self.assertEqual(met(("four", 0, 1, 2, 3), ("four",) + tuple(values), 11), dict(enumerate(values)))

    def test_values_that_grow_twofold(self):
        for many in range(1, 7):
            doubled = [("p", k + 1, k + 1) for k in range(many)]
            one, other = listed(list(range(many))), listed(doubled)
            heaviest = 2 ** (many + 1) - 1
            if heaviest <= 100:
                told = met(one, other, heaviest)
                self.assert_meets(one, other, told, heaviest)
                self.assertEqual(size(told[0]), heaviest)
            self.assert_heavy(one, other, heaviest - 1)

    def test_terms_that_share_much(self):
        # Each value is twice the next one: a walk through the whole of them would never end.
        many = 40
        doubled = [("p", k + 1, k + 1) for k in range(many)]
        self.assert_heavy(listed(list(range(many))), listed(doubled), 100)
        self.assert_heavy(listed(list(range(many))[::-1]), listed(doubled[::-1]), 100)

    def test_terms_that_share_much_twice_over(self):
        # Two rows of values that grow twofold, and whose first ones must be the same.
        many = 19
        one = [k for k in range(many)] + [100 + k for k in range(many)] + [0]
        other = [("p", k + 1, k + 1) for k in range(many)] + [("p", 101 + k, 101 + k) for k in range(many)] + [100]
        self.assert_heavy(listed(one), listed(other), 100)
        self.assert_heavy(listed([0] + one[:-1]), listed([100] + other[:-1]), 100)
        self.assert_none_or_heavy(listed(one + [many]), listed(other + [("s", 100 + many)]))
        self.assert_none_or_heavy(listed(one + [many, 100 + many]), listed(other + [ZERO, ONE]))
        self.assert_none_or_heavy(listed(one + [many]), listed(other + [0]))

    def assert_none_or_heavy(self, one, other):
        """No filling is there, but a value may come to more on the way: both ends are open."""
        for mine, its in ((one, other), (other, one)):
            try:
                self.assertIsNone(met(mine, its, 100))
            except TooHeavy:
                pass

    def test_no_filling_and_no_value_that_is_too_heavy(self):
        self.assertIsNone(met(("plus", 0, ZERO), ("plus", ONE, ONE), 1))
        self.assertIsNone(met(("plus", 0, 0), ("plus", ZERO, ONE), 1))
        self.assertIsNone(met(nested(199, ZERO), nested(199, ONE), 1))


class AllPairsTest(Meeting):
    """All pairs of small terms, against the textbook and what the document's words entail."""

    def test_by_the_textbook(self):
        seen = set()
        for one, other in itertools.product(SMALL, SMALL):
            wanted, told = plain_met(one, other), met(one, other, 100)
            seen.add(told is None)
            self.assertEqual(told is None, wanted is None, (one, other))
            if told is not None:
                self.assert_meets(one, other, told)
                have = blanks(("both", one, other))
                self.assertIsNotNone(fitted(of_all(have, told), of_all(have, wanted)), (one, other))
                self.assertIsNotNone(fitted(of_all(have, wanted), of_all(have, told)), (one, other))
        self.assertEqual(seen, {True, False})

    def test_any_other_filling_makes_an_instance(self):
        terms = all_terms(SIGNS, [0, 1], 4)
        grounds = [dict(enumerate(values)) for values in itertools.product(GROUND, repeat=2)]
        for one in all_terms(SIGNS, [0, 1], 3):
            mine = [filled(one, filling) for filling in grounds]
            for other in terms:
                told = met(one, other, 100)
                for filling, made in zip(grounds, mine):
                    if made == filled(other, filling):
                        self.assertIsNotNone(told, (one, other))
                        self.assertIsNotNone(fitted(filled(one, told), made), (one, other))

    def test_just_where_a_value_has_more_it_is_refused(self):
        terms = all_terms(SIGNS, [0, 1, 2], 3)
        for one, other in itertools.product(terms, SMALL):
            told = met(one, other, 100)
            if told is not None:
                heaviest = max([size(value) for value in told.values()], default=1)
                self.assertEqual(met(one, other, heaviest), told)
                if heaviest > 1:
                    self.assert_heavy(one, other, heaviest - 1)


if __name__ == "__main__":
    unittest.main()
