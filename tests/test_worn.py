"""Point 13: terms worn down by a list of rules."""

import copy
import itertools
import unittest

from ruleswood.entries import Entry
from ruleswood.errors import TooLong, WoodError
from ruleswood.fitting import fitted
from ruleswood.steps import walked, worn
from ruleswood.terms import filled, part_at, places, put_at
from ruleswood.texts import read, shown
from tests.samples import all_terms, nested
from tests.woods import entry

A, B = ("a",), ("b",)
SUMS = [entry(0, "plus(?0,zero) = ?0"), entry(1, "plus(?0,s(?1)) = s(plus(?0,?1))")]
SORTED = [entry(0, "b(a(?0)) = a(b(?0))")]


def rules_of(*lines):
    return [entry(number, line) for number, line in enumerate(lines)]


def told(text, rules, most=400):
    """The steps, with the terms as texts."""
    return [(number, place, forth, shown(term)) for number, place, forth, term in worn(read(text), rules, most)]


def plain_worn(term, rules, most):
    """The chain by the words of point 13, or None where it is refused."""
    chain = []
    while True:
        found = [(place, rule) for place in places(term) for rule in rules
                 if fitted(rule.left, part_at(term, place)) is not None]
        if not found:
            return chain
        if len(chain) == most:
            return None
        place, rule = found[0]
        filling = fitted(rule.left, part_at(term, place))
        term = put_at(term, place, filled(rule.right, filling))
        chain.append((rule.number, place, True, term))


def b_then_a(many_b, many_a, bottom=("z",)):
    return nested(many_b, nested(many_a, bottom, "a"), "b")


class WornTest(unittest.TestCase):
    def assert_too_long(self, term, rules, most):
        with self.assertRaises(TooLong):
            worn(term, rules, most)

    def test_nothing_to_wear(self):
        for term in (0, 999, A, read("f(?0,b)"), nested(199, 0)):
            for most in (0, 1, 400):
                self.assertEqual(worn(term, [], most), [])
                self.assertEqual(worn(term, SUMS, most), [])

    def test_a_sum(self):
        self.assertEqual(told("plus(s(zero),s(s(zero)))", SUMS), [
            (1, (), True, "s(plus(s(zero),s(zero)))"),
            (1, (1,), True, "s(s(plus(s(zero),zero)))"),
            (0, (1, 1), True, "s(s(s(zero)))"),
        ])

    def test_the_first_place(self):
        rules = rules_of("a = b")
        self.assertEqual([step[1] for step in told("h(a,f(a),a)", rules)], [(1,), (2, 1), (3,)])
        # All places within a part ahead of the part's own place.
        rules = rules_of("f(?0) = ?0", "a = b")
        self.assertEqual(told("f(f(a))", rules), [
            (1, (1, 1), True, "f(f(b))"), (0, (1,), True, "f(b)"), (0, (), True, "b"),
        ])
        self.assertEqual([step[1] for step in told("h(f(?0),h(f(?1),?2))", rules)], [(1,), (2, 1)])

    def test_a_part_is_worn_again_behind_a_step(self):
        rules = rules_of("g(?0) = f(?0)", "f(b) = c", "a = b", "h(c,?0) = g(?0)")
        self.assertEqual(told("h(g(a),b)", rules), [
            (2, (1, 1), True, "h(g(b),b)"),
            (0, (1,), True, "h(f(b),b)"),
            (1, (1,), True, "h(c,b)"),
            (3, (), True, "g(b)"),
            (0, (), True, "f(b)"),
            (1, (), True, "c"),
        ])

    def test_within_what_was_put_there(self):
        rules = rules_of("k(?0) = h(f(a),?0,a)", "a = b", "f(b) = b")
        self.assertEqual([step[:2] for step in told("k(c)", rules)], [(0, ()), (1, (1, 1)), (2, (1,)), (1, (3,))])

    def test_what_stands_further_on_waits(self):
        rules = rules_of("f(?0) = a", "a = b", "h(b,b) = a")
        self.assertEqual(told("h(f(c),a)", rules), [
            (0, (1,), True, "h(a,a)"),
            (1, (1,), True, "h(b,a)"),
            (1, (2,), True, "h(b,b)"),
            (2, (), True, "a"),
            (1, (), True, "b"),
        ])

    def test_then_the_first_rule_of_the_list(self):
        rules = rules_of("f(?0) = g(?0)", "f(a) = b")
        self.assertEqual(told("f(a)", rules), [(0, (), True, "g(a)")])
        self.assertEqual(told("f(a)", rules[::-1]), [(1, (), True, "b")])

    def test_the_first_place_goes_ahead_of_the_first_rule(self):
        rules = rules_of("f(a) = c", "a = b")
        self.assertEqual(told("f(a)", rules), [(1, (1,), True, "f(b)")])
        self.assertEqual(told("f(a)", rules[::-1]), [(1, (1,), True, "f(b)")])
        self.assertEqual(told("f(a)", rules[:1]), [(0, (), True, "c")])

    def test_the_number_is_the_entrys_own(self):
        self.assertEqual(told("a", [entry(17, "a = b")]), [(17, (), True, "b")])
        self.assertEqual(told("f(a)", [entry(5, "f(b) = c"), entry(3, "a = b")]),
                         [(3, (1,), True, "f(b)"), (5, (), True, "c")])

    def test_a_left_side_that_is_a_name_alone(self):
        self.assertEqual(told("a", rules_of("a = b")), [(0, (), True, "b")])
        self.assertEqual(told("f(?0,a)", rules_of("a = b")), [(0, (2,), True, "f(?0,b)")])

    def test_a_blank_twice_in_a_left_side(self):
        rules = rules_of("f(?0,?0) = ?0")
        self.assertEqual(told("f(g(?1),g(?1))", rules), [(0, (), True, "g(?1)")])
        self.assertEqual(told("f(g(?1),g(?2))", rules), [])
        self.assertEqual(told("f(f(a,a),a)", rules), [(0, (1,), True, "f(a,a)"), (0, (), True, "a")])

    def test_blanks_of_the_term_stay(self):
        self.assertEqual(told("plus(?1,s(?0))", SUMS), [(1, (), True, "s(plus(?1,?0))")])
        self.assertEqual(told("plus(?5,zero)", SUMS), [(0, (), True, "?5")])

    def test_just_as_many_steps_as_told(self):
        for many in (1, 2, 10, 46):
            term = ("plus", ("zero",), nested(many, ("zero",)))
            self.assertEqual(len(worn(term, SUMS, many + 1)), many + 1)
            self.assert_too_long(term, SUMS, many)
            self.assert_too_long(term, SUMS, 0)

    def test_four_hundred_steps(self):
        for many_b, many_a in ((20, 20), (40, 10), (10, 40), (5, 80)):
            chain = worn(b_then_a(many_b, many_a), SORTED, 400)
            self.assertEqual(len(chain), 400)
            self.assertEqual(chain[-1][3], nested(many_a, nested(many_b, ("z",), "b"), "a"))
            self.assertEqual(walked(SORTED, b_then_a(many_b, many_a), chain), chain[-1][3])
            self.assert_too_long(b_then_a(many_b, many_a), SORTED, 399)
        self.assert_too_long(b_then_a(20, 21), SORTED, 400)

    def test_rules_without_an_end(self):
        for line in ("a = a", "a = f(a)", "a = h(a,a)"):
            for most in (0, 1, 50, 400):
                self.assert_too_long(A, rules_of(line), most)
                self.assert_too_long(nested(50, A), rules_of(line), most)
        self.assert_too_long(read("h(?0,?1)"), rules_of("h(?0,?1) = h(?1,?0)"), 400)
        self.assert_too_long(A, rules_of("a = b", "b = a"), 400)

    def test_terms_that_grow_twofold(self):
        # The whole term is soon too large to be walked through.
        self.assert_too_long(("d", A), rules_of("d(?0) = d(p(?0,?0))"), 400)
        term = ("d", nested(60, A))
        rules = rules_of("d(s(?0)) = p(d(?0),d(?0))")
        self.assert_too_long(term, rules, 400)
        chain = worn(("t", nested(60, A), A), rules_of("t(s(?0),?1) = t(?0,p(?1,?1))"), 400)
        self.assertEqual(len(chain), 60)

    def test_too_long_is_a_refusal(self):
        self.assertTrue(issubclass(TooLong, WoodError))

    def test_two_hundred_deep(self):
        rules = rules_of("s(s(?0)) = s(?0)")
        chain = worn(nested(199, A), rules, 400)
        self.assertEqual(len(chain), 198)
        self.assertEqual(chain[0], (0, (1,) * 197, True, nested(198, A)))
        self.assertEqual(chain[-1], (0, (), True, nested(1, A)))
        self.assertEqual(worn(nested(199, A), [Entry(0, nested(199, 0), 0, [])], 1), [(0, (), True, A)])
        self.assertEqual(worn(nested(199, A), rules_of("a = b"), 1), [(0, (1,) * 199, True, nested(199, B))])

    def test_what_was_handed_in_stays(self):
        rules, term = list(SUMS), read("plus(s(zero),s(zero))")
        before = copy.deepcopy(([vars(rule) for rule in rules], term))
        chain = worn(term, rules, 10)
        worn(term, rules, 10).clear()
        self.assertEqual(([vars(rule) for rule in rules], term), before)
        self.assertEqual(rules, SUMS)
        self.assertEqual(worn(term, rules, 10), chain)
        self.assertEqual(len(chain), 2)

    def test_all_small_terms_by_the_words_of_the_point(self):
        terms = all_terms([("a", 0, 1), ("b", 0, 1), ("s", 1, 1), ("p", 2, 1)], [0], 4)
        lists = [
            rules_of("p(?0,?1) = s(?1)", "s(a) = b", "s(s(?0)) = p(?0,a)"),
            rules_of("p(?0,?0) = ?0", "s(?0) = p(?0,a)", "p(b,?0) = s(?0)"),
            rules_of("a = s(b)", "p(s(?0),?1) = p(?0,p(?1,?1))", "s(s(?0)) = ?0"),
        ]
        seen = set()
        for rules, term, most in itertools.product(lists + [rules[::-1] for rules in lists], terms, (0, 2, 5)):
            wanted = plain_worn(term, rules, most)
            seen.add(wanted is None)
            if wanted is None:
                self.assert_too_long(term, rules, most)
            else:
                self.assertEqual(worn(term, rules, most), wanted)
                if wanted:
                    self.assertEqual(walked(sorted(rules, key=lambda rule: rule.number), term, wanted), wanted[-1][3])
        self.assertEqual(seen, {True, False})


if __name__ == "__main__":
    unittest.main()
