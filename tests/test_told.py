"""Point 20: two terms told alike, unlike or open, with the chains that show it."""

import itertools
import unittest

from ruleswood.errors import NoTerm, TooLong
from ruleswood.growing import Wood
from ruleswood.order import Order
from ruleswood.steps import turned, walked, worn
from ruleswood.texts import read, read_pair
from tests.samples import all_terms, nested
from tests.woods import DONE, NOT_DONE, WoodCase, grown, read_pairs, sown

ZERO = ("zero",)


def number(many):
    return nested(many, ZERO)


def shuffled(term):
    """The order of three into which a word of a and b brings them, each letter swapping two."""
    row = [0, 1, 2]
    while term != ("z",):
        at = 0 if term[0] == "a" else 1
        row[at], row[at + 1] = row[at + 1], row[at]
        term = term[1]
    return row


class AlikeTest(WoodCase):
    def test_sums(self):
        wood = grown(*DONE["sums"])
        told = self.assert_told(wood, ("plus", number(2), number(1)), number(3), "alike")
        self.assertEqual([step[0] for step in told[1]], [3, 2])
        for one, other in itertools.product(range(6), range(6)):
            self.assert_told(wood, ("plus", number(one), number(other)), number(one + other), "alike")
            self.assert_told(wood, ("plus", number(one), number(other)), ("plus", number(other), number(one)), "alike")
            self.assert_told(wood, ("plus", number(one), number(other)), number(one + other + 1), "unlike")

    def test_the_chain_is_that_of_both(self):
        wood = grown(*DONE["sums"])
        one, other = ("plus", number(3), number(2)), ("plus", number(1), number(4))
        forth, back = worn(one, wood.rules, 400), worn(other, wood.rules, 400)
        self.assertEqual(wood.told(one, other, 400), ("alike", forth + turned(other, back), []))
        self.assertEqual(wood.told(other, one, 400), ("alike", back + turned(one, forth), []))

    def test_the_same_term(self):
        wood = grown(*DONE["sums"])
        self.assertEqual(wood.told(number(3), number(3), 0), ("alike", [], []))
        self.assertEqual(wood.told(7, 7, 0), ("alike", [], []))
        term = ("plus", number(1), number(1))
        self.assertEqual(len(self.assert_told(wood, term, term, "alike")[1]), 4)

    def test_blanks_stay_what_they_are(self):
        wood = grown(*DONE["sums"])
        self.assert_told(wood, ("plus", 0, ("s", 1)), ("s", ("plus", 0, 1)), "alike")
        self.assert_told(wood, ("plus", 999, ZERO), 999, "alike")
        self.assert_told(wood, ("plus", 0, 1), ("plus", 1, 0), "unlike")
        self.assert_told(wood, 0, 1, "unlike")

    def test_words_against_the_orders_of_three(self):
        wood = grown(*DONE["three"])
        words = [term for term in all_terms(DONE["three"][0], [], 7)]
        self.assertGreater(len(words), 100)
        for one, other in itertools.product(words[::3], words):
            wanted = "alike" if shuffled(one) == shuffled(other) else "unlike"
            self.assertEqual(wood.told(one, other, 400)[0], wanted)
        for one in words[::5]:
            for other in words[::7]:
                self.assert_told(wood, one, other, "alike" if shuffled(one) == shuffled(other) else "unlike")

    def test_the_told_pairs_themselves(self):
        for signs, lines in DONE.values():
            wood = grown(signs, lines)
            for one, other in read_pairs(lines) + [(one.left, one.right) for one in wood.book]:
                self.assert_told(wood, one, other, "alike")
                self.assert_told(wood, other, one, "alike")

    def test_each_alike_is_shown_by_the_told_pairs_alone(self):
        """Each entry's chain uses lower ones alone: so the told pairs lead from each side to the other."""
        for signs, lines in DONE.values():
            wood = grown(signs, lines)
            for one in wood.book[len(lines):]:
                start, chain = one.left, one.chain
                self.assertEqual(walked(wood.book[:one.number], start, chain), one.right)


class UnlikeAndOpenTest(WoodCase):
    def test_unlike_where_growth_is_done(self):
        wood = grown(*DONE["sums"])
        one, other = ("plus", number(1), number(1)), ("plus", number(2), number(1))
        word, forth, back = self.assert_told(wood, one, other, "unlike")
        self.assertEqual((len(forth), len(back)), (2, 2))
        self.assertEqual((forth[-1][3], back[-1][3]), (number(2), number(3)))
        self.assertEqual(wood.told(number(1), number(2), 0), ("unlike", [], []))

    def test_open_while_it_grows(self):
        lines = ["f(f(?0)) = g(?0)", "h(h(?0)) = k(?0)"]
        wood = sown(DONE["twice"][0], lines)
        one, other = read_pair("f(g(?0)) = g(f(?0))")
        wanted = {2: "open", 3: "open", 4: "alike"}
        for many in range(12):
            self.assert_told(wood, ("f", ("f", 0)), ("g", 0), "alike" if many else "open")
            self.assert_told(wood, one, other, wanted.get(many, "open" if many < 4 else "alike"))
            self.assert_told(wood, ("f", 0), ("g", 0), "unlike" if wood.state == "done" else "open")
            wood.grow(1)
        self.assertEqual(wood.state, "done")

    def test_open_where_it_is_stuck(self):
        signs, lines = NOT_DONE["swap"]
        wood = grown(signs, lines)
        self.assertEqual(wood.state, "stuck")
        self.assert_told(wood, read("plus(?0,?1)"), read("plus(?1,?0)"), "open")
        self.assert_told(wood, ("zero",), 0, "open")
        told = self.assert_told(wood, read("plus(plus(?0,zero),?1)"), read("plus(plus(?1,zero),?0)"), "open")
        self.assertEqual((len(told[1]), len(told[2])), (1, 1))
        self.assert_told(wood, read("plus(plus(?0,zero),?1)"), read("plus(?0,plus(?1,zero))"), "alike")

    def test_open_where_it_is_enough(self):
        signs, lines = NOT_DONE["group"]
        wood = grown(signs, lines, 60, 8)
        self.assertEqual(wood.state, "enough")
        self.assert_told(wood, read("m(i(e),m(e,?0))"), read("m(i(e),?0)"), "alike")
        self.assert_told(wood, read("m(?0,?1)"), read("m(?1,?0)"), "open")
        self.assert_told(wood, ("e",), 0, "open")

    def test_with_no_pair(self):
        wood = sown(*DONE["none"])
        self.assertEqual(wood.told(("a",), 0, 400), ("open", [], []))
        self.assertEqual(wood.told(("a",), ("a",), 400), ("alike", [], []))
        wood.grow(1)
        self.assertEqual(wood.told(("a",), 0, 400), ("unlike", [], []))


class RefusedTest(WoodCase):
    def test_no_term(self):
        for many in (0, 1, 400):
            wood = sown(*DONE["sums"])
            wood.grow(many)
            for term in (("one",), ("s",), ("s", ZERO, ZERO), ("plus", 0), 1000, ("s", 1000), ("zero", 0),
                         ("plus", ZERO, ("s", ("s", ("one",)))), nested(199, 1000)):
                for pair in ((term, ZERO), (ZERO, term), (term, term)):
                    with self.assertRaises(NoTerm):
                        wood.told(pair[0], pair[1], 400)

    def test_too_long(self):
        wood = grown(*DONE["sums"])
        for many in (0, 1, 45):
            term = ("plus", ZERO, number(many))
            for pair in ((term, number(many)), (number(many), term), (term, ("plus", number(many), ZERO)),
                         (term, ZERO), (ZERO, term), (term, 5)):
                wood.told(pair[0], pair[1], many + 1)
                with self.assertRaises(TooLong):
                    wood.told(pair[0], pair[1], many)
                with self.assertRaises(TooLong):
                    wood.told(pair[0], pair[1], 0)

    def test_each_term_counts_alone(self):
        wood = grown(*DONE["sums"])
        term = ("plus", ZERO, number(9))
        self.assertEqual(len(wood.told(term, term, 10)[1]), 20)

    def test_four_hundred_steps(self):
        signs = [("z", 0, 1), ("a", 1, 1), ("b", 1, 1)]
        wood = grown(signs, ["b(a(?0)) = a(b(?0))"])
        term = nested(20, nested(20, ("z",), "a"), "b")
        other = nested(20, nested(20, ("z",), "b"), "a")
        self.assertEqual(len(self.assert_told(wood, term, other, "alike")[1]), 400)
        with self.assertRaises(TooLong):
            wood.told(("b", ("a", ("z",))), ("b", ("a", term)), 400)
        with self.assertRaises(TooLong):
            wood.told(term, other, 399)

    def test_refused_and_asked_again(self):
        wood = grown(*DONE["sums"])
        term = ("plus", ZERO, number(9))
        told = wood.told(term, number(9), 400)
        for many in range(10):
            with self.assertRaises(TooLong):
                wood.told(term, number(9), many)
            self.assertEqual(wood.told(term, number(9), 10), told)


class AskedAgainTest(WoodCase):
    def test_behind_other_questions(self):
        for signs, lines in DONE.values():
            wood = grown(signs, lines)
            before = (list(wood.book), list(wood.rules), wood.standing())
            terms = all_terms(signs, [0, 1], 4)
            questions = list(zip(terms, terms[::-1]))[:40] + [(one.left, one.right) for one in wood.book]
            first = [wood.told(one, other, 400) for one, other in questions]
            self.assertEqual([wood.told(one, other, 400) for one, other in questions[::-1]][::-1], first)
            self.assertEqual((wood.book, wood.rules, wood.standing(), wood.state), before + ("done",))

    def test_questions_change_no_growth(self):
        for signs, lines in list(DONE.values()) + list(NOT_DONE.values()):
            one, other = sown(signs, lines), sown(signs, lines)
            for _ in range(25):
                for left, right in read_pairs(lines):
                    one.told(left, right, 400)
                    one.told(right, 999, 400)
                one.grow(1)
                other.grow(1)
                self.assertEqual(one.state, other.state)
                self.assertEqual(one.standing(), other.standing())
                self.assertEqual(len(one.book), len(other.book))

    def test_the_chains_are_the_callers_own(self):
        wood = grown(*DONE["sums"])
        term, other = ("plus", ZERO, number(3)), ("plus", ZERO, number(2))
        for pair in ((term, number(3)), (term, other), (term, term)):
            wanted = wood.told(pair[0], pair[1], 400)
            for _ in range(2):
                for chain in wood.told(pair[0], pair[1], 400)[1:]:
                    chain.append(None)
                    chain[0] = None
            self.assertEqual(wood.told(pair[0], pair[1], 400), wanted)
        self.assertEqual(wood.rules, [one for one in wood.book if one.number in (2, 3)])
        self.assertEqual(len(wood.book[2].chain), 1)

    def test_the_handed_order_serves_on(self):
        order = Order(DONE["sums"][0])
        one, other = Wood(order, read_pairs(DONE["sums"][1])), Wood(order, [])
        one.grow(400)
        other.grow(400)
        self.assertEqual(one.told(("plus", 0, ZERO), 0, 400)[0], "alike")
        self.assertEqual(other.told(("plus", 0, ZERO), 0, 400)[0], "unlike")


if __name__ == "__main__":
    unittest.main()
