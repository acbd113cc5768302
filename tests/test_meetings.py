"""Point 10: the meetings of a rule with another one."""

import copy
import itertools
import unittest

from ruleswood.entries import Entry
from ruleswood.errors import TooHeavy
from ruleswood.fitting import fitted
from ruleswood.meetings import meetings
from ruleswood.order import Order
from ruleswood.terms import blanks, filled, part_at, places, put_at, size
from ruleswood.texts import read
from tests.samples import all_terms, nested
from tests.test_met import plain_met
from tests.woods import entry

A, B = ("a",), ("b",)
ASSOC = "m(m(?0,?1),?2) = m(?0,m(?1,?2))"


def numbered(told):
    """Meetings with their blanks numbered as they first stand, so that only what the document says is compared."""
    rows = []
    for term, place, one, new in told:
        row = ("row", term, one, new)
        row = filled(row, {blank: at for at, blank in enumerate(blanks(row))})
        rows.append((row[1], place, row[2], row[3]))
    return rows


def plain_meetings(rule, other):
    """The meetings by the textbook, of rules with small blanks."""
    moved = {blank: blank + 500 for blank in blanks(("both", other.left, other.right))}
    left, right = filled(other.left, moved), filled(other.right, moved)
    rows = []
    for place in places(rule.left):
        part = part_at(rule.left, place)
        if not isinstance(part, int) and not (place == () and rule.number == other.number):
            filling = plain_met(part, left)
            if filling is not None:
                term = filled(rule.left, filling)
                rows.append((term, place, filled(rule.right, filling), put_at(term, place, filled(right, filling))))
    return rows


class MeetingsCase(unittest.TestCase):
    def assert_met(self, rule, other, wanted, most=100):
        told = meetings(rule, other, most)
        self.assertIsInstance(told, list)
        for row in told:
            self.assertIsInstance(row, tuple)
        rows = [(read(term), place, read(one), read(new)) for term, place, one, new in wanted]
        self.assertEqual(numbered(told), numbered(rows))
        self.assertTrue(all(blank >= 0 for row in told for blank in blanks(("row", row[0], row[2], row[3]))))

    def assert_heavy(self, rule, other, most):
        with self.assertRaises(TooHeavy):
            meetings(rule, other, most)


class MeetingsTest(MeetingsCase):
    def test_a_rule_with_itself(self):
        rule = entry(4, ASSOC)
        inner = ("m(m(m(?0,?1),?2),?3)", (1,), "m(m(?0,?1),m(?2,?3))", "m(m(?0,m(?1,?2)),?3)")
        self.assert_met(rule, rule, [inner])
        # Another entry of the same number and sides is the rule itself, one of another number is not.
        self.assert_met(rule, entry(4, ASSOC), [inner])
        outer = ("m(m(?0,?1),?2)", (), "m(?0,m(?1,?2))", "m(?0,m(?1,?2))")
        self.assert_met(rule, entry(5, ASSOC), [inner, outer])
        self.assert_met(entry(5, ASSOC), rule, [inner, outer])

    def test_a_rule_with_itself_under_other_blanks(self):
        self.assert_met(entry(4, "f(f(?7)) = g(?7)"), entry(4, "f(f(?2)) = g(?2)"),
                        [("f(f(f(?0)))", (1,), "g(f(?0))", "f(g(?0))")])

    def test_two_rules_with_the_same_left_side(self):
        one, other = entry(0, "f(?0,?1) = ?0"), entry(1, "f(?0,?1) = ?1")
        self.assert_met(one, other, [("f(?0,?1)", (), "?0", "?1")])
        self.assert_met(other, one, [("f(?0,?1)", (), "?1", "?0")])
        self.assert_met(one, one, [])

    def test_no_meeting_where_a_blank_stands(self):
        self.assert_met(entry(0, "f(?0) = ?0"), entry(1, "a = b"), [])
        self.assert_met(entry(0, "f(?0,g(?1)) = ?0"), entry(1, "h(?0) = ?0"), [])
        self.assert_met(entry(0, "f(?0) = ?0"), entry(0, "f(?0) = ?0"), [])

    def test_no_meeting_at_all(self):
        self.assert_met(entry(0, "f(g(?0)) = ?0"), entry(1, "f(h(?0)) = ?0"), [])
        self.assert_met(entry(0, "a = b"), entry(0, "a = b"), [])
        self.assert_met(entry(0, "c = b"), entry(1, "a = b"), [])

    def test_names_alone(self):
        self.assert_met(entry(0, "a = b"), entry(1, "a = c"), [("a", (), "b", "c")])
        self.assert_met(entry(0, "f(a) = b"), entry(1, "f(?0) = ?0"), [("f(a)", (), "b", "a")])
        self.assert_met(entry(0, "f(a,a) = b"), entry(1, "a = c"),
                        [("f(a,a)", (1,), "b", "f(c,a)"), ("f(a,a)", (2,), "b", "f(a,c)")])

    def test_the_order_of_places(self):
        rule, other = entry(0, "f(f(g(?0),g(?1)),f(g(?2),?3)) = ?0"), entry(1, "g(?0) = ?0")
        self.assertEqual([row[1] for row in meetings(rule, other, 100)], [(1, 1), (1, 2), (2, 1)])
        other = entry(1, "f(?0,?1) = ?1")
        self.assertEqual([row[1] for row in meetings(rule, other, 100)], [(1,), (2,), ()])

    def test_both_ways(self):
        one, other = entry(0, "f(g(?0)) = h(?0)"), entry(1, "g(k(?0)) = ?0")
        self.assert_met(one, other, [("f(g(k(?0)))", (1,), "h(k(?0))", "f(?0)")])
        self.assert_met(other, one, [])

    def test_the_same_blank_in_both_rules(self):
        # Were ?0 of both the same blank, there would be no meeting, or one with fewer terms.
        self.assert_met(entry(0, "f(?0,g(?0)) = ?0"), entry(1, "f(?0,?1) = ?1"),
                        [("f(?0,g(?0))", (), "?0", "g(?0)")])
        self.assert_met(entry(0, "f(?0,?1) = ?0"), entry(1, "f(g(?1),?0) = ?1"),
                        [("f(g(?0),?1)", (), "g(?0)", "?0")])
        self.assert_met(entry(0, "f(?1,?0) = ?1"), entry(1, "f(?0,?1) = ?1"), [("f(?0,?1)", (), "?0", "?1")])

    def test_a_blank_twice_on_either_side(self):
        self.assert_met(entry(0, "f(?0,?0) = ?0"), entry(1, "f(a,?5) = ?5"), [("f(a,a)", (), "a", "a")])
        self.assert_met(entry(0, "f(?0,?1) = ?0"), entry(1, "f(?3,?3) = b"), [("f(?0,?0)", (), "?0", "b")])
        self.assert_met(entry(0, "f(?0,g(?0)) = ?0"), entry(1, "f(?0,?0) = b"), [])

    def test_the_last_blank_on_either_side(self):
        for line in ("f(?999,?0) = g(?999)", "f(?998,?999) = g(?998)", "f(?0,?999) = g(?0)", "f(?0,?1) = g(?0)"):
            for turned_line in ("f(g(?999),?0) = ?0", "f(g(?0),?999) = ?999", "f(g(?1),?0) = ?0"):
                self.assert_met(entry(0, line), entry(1, turned_line), [("f(g(?0),?1)", (), "g(g(?0))", "?1")])
                self.assert_met(entry(1, turned_line), entry(0, line), [("f(g(?0),?1)", (), "?1", "g(g(?0))")])

    def test_only_blanks_anew_where_need_be(self):
        term, _, one, new = meetings(entry(0, "f(?999) = ?999"), entry(1, "f(?999) = g(?999)"), 100)[0]
        blank = term[1]
        self.assertIsInstance(blank, int)
        self.assertEqual((term, one, new), (("f", blank), blank, ("g", blank)))

    def test_rules_stay_as_they_were(self):
        one, other = entry(3, "f(?0,g(?0)) = ?0"), entry(4, "f(?0,?1) = ?1")
        one.chain.append((0, (), True, A))
        before = copy.deepcopy((vars(one), vars(other)))
        for _ in range(2):
            meetings(one, other, 100).append(None)
            meetings(other, one, 100).clear()
            meetings(one, one, 100)
        self.assertEqual((vars(one), vars(other)), before)
        self.assertEqual(len(meetings(one, other, 100)), 1)

    def test_all_pairs_of_small_rules(self):
        terms = all_terms([("a", 0, 1), ("s", 1, 1), ("p", 2, 1)], [0, 1], 5)
        lefts = [left for left in terms if not isinstance(left, int) and blanks(left) in ([], [0], [0, 1])]
        rules = [Entry(k, left, ("r",) + tuple(blanks(left)), []) for k, left in enumerate(lefts)]
        self.assertGreater(len(rules), 50)
        for rule, other in itertools.product(rules, rules):
            told = meetings(rule, other, 100)
            self.assertEqual(numbered(told), numbered(plain_meetings(rule, other)))
            for term, place, one, new in told:
                # By the rules' own words: each of the two leads from the term to what it makes of it.
                self.assertEqual(filled(rule.right, fitted(rule.left, term)), one)
                by_other = filled(other.right, fitted(other.left, part_at(term, place)))
                self.assertEqual(put_at(term, place, by_other), new)


class TooHeavyTest(MeetingsCase):
    def test_by_a_value(self):
        for many in (1, 10, 98):
            rule, other = entry(0, "f(?0) = ?0"), Entry(1, ("f", nested(many, A)), A, [])
            self.assertEqual(len(meetings(rule, other, many + 2)), 1)
            self.assert_heavy(rule, other, many + 1)
            self.assert_heavy(rule, other, many)
            self.assertEqual(len(meetings(other, rule, many + 2)), 1)
            self.assert_heavy(other, rule, many)

    def test_by_the_term_alone(self):
        # The values have 4 each, the term has 9.
        rule, other = Entry(0, ("f", 0, nested(3, A)), A, []), Entry(1, ("f", nested(3, B), 0), A, [])
        told = meetings(rule, other, 9)
        self.assertEqual([size(row[0]) for row in told], [9])
        self.assert_heavy(rule, other, 8)
        self.assert_heavy(rule, other, 4)
        self.assert_heavy(rule, other, 1)

    def test_blanks_count(self):
        rule, other = entry(0, "f(g(?0,?1),?2) = ?0"), entry(1, "g(?0,?1) = ?0")
        self.assertEqual(len(meetings(rule, other, 5)), 1)
        self.assert_heavy(rule, other, 4)

    def test_what_is_made_of_the_term_does_not_count(self):
        rule, other = entry(0, "f(?0) = g(?0,?0,?0,?0)"), entry(1, "f(?0) = g(?0,?0,?0,?0)")
        self.assert_met(rule, other, [("f(?0)", (), "g(?0,?0,?0,?0)", "g(?0,?0,?0,?0)")], 2)

    def test_any_of_several(self):
        # At (1,) the term has 4, at () it has 3.
        rule, other = entry(0, "f(f(?0)) = ?0"), entry(1, "f(f(?0)) = ?0")
        self.assertEqual(len(meetings(rule, other, 4)), 2)
        self.assert_heavy(rule, other, 3)
        self.assert_heavy(rule, other, 2)

    def test_where_nothing_meets_nothing_is_too_heavy(self):
        rule, other = Entry(0, nested(50, A), A, []), entry(1, "b = a")
        self.assertEqual(meetings(rule, other, 1), [])
        self.assertEqual(meetings(rule, rule, 1), [])

    def test_values_that_grow_twofold(self):
        # A walk through the whole term would never end.
        many = 30
        one = other = ("end",)
        for k in range(many):
            one, other = ("row", k, one), ("row", ("p", k + 1, k + 1), other)
        rule = Entry(0, ("row", one, other), A, [])
        self.assert_heavy(rule, entry(1, "row(?0,?0) = a"), 100)


class DeepTest(unittest.TestCase):
    def test_two_hundred_deep(self):
        rule = Entry(0, nested(199, A), A, [])
        self.assertEqual(meetings(rule, entry(1, "a = b"), 100 + 100),
                         [(nested(199, A), (1,) * 199, A, nested(199, B))])
        with self.assertRaises(TooHeavy):
            meetings(rule, entry(1, "a = b"), 100)
        self.assertEqual(meetings(rule, rule, 100), [])
        open_rule = Entry(2, nested(199, 0), 0, [])
        with self.assertRaises(TooHeavy):
            meetings(open_rule, open_rule, 100)
        self.assertEqual(meetings(open_rule, entry(3, "t(?0) = ?0"), 100), [])

    def test_a_hundred_deep(self):
        rule = Entry(0, nested(50, 0), 0, [])
        told = meetings(rule, rule, 100)
        self.assertEqual([row[1] for row in told], [(1,) * k for k in range(49, 0, -1)])
        for term, place, one, new in told:
            blank = blanks(term)[0]
            self.assertEqual(term, nested(50 + len(place), blank))
            self.assertEqual(one, nested(len(place), blank))
            self.assertEqual(new, nested(len(place), blank))

    def test_the_blanks_are_those_of_a_term(self):
        order = Order([("f", 2, 1), ("g", 1, 1)])
        for term, _, one, new in meetings(entry(0, "f(?0,g(?1)) = ?0"), entry(1, "g(g(?0)) = ?0"), 100):
            self.assertTrue(order.fits(term) and order.fits(one) and order.fits(new))


if __name__ == "__main__":
    unittest.main()
