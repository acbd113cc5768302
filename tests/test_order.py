"""Points 1, 5 and 6: orders, and which term is greater."""

import unittest
from collections import Counter

from ruleswood.errors import BadOrder
from ruleswood.order import Order
from ruleswood.terms import blanks
from tests.samples import all_terms, nested

# Of one weight, so that the place among the signs tells.
EVEN = [("zero", 0, 1), ("one", 0, 1), ("neg", 1, 1), ("suc", 1, 1), ("plus", 2, 1), ("times", 2, 1)]
LETTERS = "abcdefghijklmnopqrstuvwxyz"


def named(many):
    return [(LETTERS[k], 0, 1) for k in range(many)]


class SignsTest(unittest.TestCase):
    def test_one_sign_and_twenty_signs(self):
        self.assertIs(Order(named(1)).fits(("a",)), True)
        self.assertIs(Order(named(20)).fits(("t",)), True)

    def test_none_and_more_than_twenty(self):
        for many in (0, 21, 26):
            with self.subTest(many=many), self.assertRaises(BadOrder):
                Order(named(many))

    def test_names(self):
        for name in ("a", "z", "zz", "eightlet"):
            self.assertIs(Order([(name, 0, 1)]).fits((name,)), True)

    def test_what_is_no_name(self):
        bad = ("", "ninelette", "Plus", "pluS", "A", "a1", "1a", "0", "a b", " ", " a", "a ", "a\n", "\n", "a_b", "_",
               "a-b", "?", "a,", "(", "`", "{", "\u00e4", "stra\u00dfe", "\u03b1", "\uff41", "\u00aa")
        for name in bad:
            for signs in ([(name, 0, 1)], [("a", 0, 1), (name, 2, 1)], [(name, 1, 1), ("b", 0, 1)]):
                with self.subTest(name=name), self.assertRaises(BadOrder) as caught:
                    Order(signs)
                self.assertTrue(str(caught.exception).isascii())

    def test_numbers_of_parts(self):
        for many in range(5):
            self.assertIs(Order([("f", many, 1)]).fits(("f",) + (0,) * many), True)
        for many in (-99, -1, 5, 6, 99):
            with self.subTest(many=many), self.assertRaises(BadOrder):
                Order([("a", 0, 1), ("f", many, 1)])

    def test_weights(self):
        for weight in range(1, 10):
            self.assertEqual(Order([("a", 0, weight)]).weight(("a",)), weight)
        for weight in (-1, 0, 10, 99):
            with self.subTest(weight=weight), self.assertRaises(BadOrder):
                Order([("a", 0, weight), ("b", 0, 1)])

    def test_a_name_twice(self):
        for signs in ([("a", 0, 1), ("a", 0, 1)], [("a", 0, 1), ("b", 1, 2), ("a", 2, 3)]):
            with self.subTest(signs=signs), self.assertRaises(BadOrder):
                Order(signs)

    def test_the_handed_list_is_not_changed(self):
        signs = list(EVEN)
        order = Order(signs)
        order.told(("plus", 0, ("zero",)), ("plus", ("zero",), 0))
        self.assertEqual(signs, EVEN)

    def test_what_becomes_of_the_handed_list_changes_nothing(self):
        signs = list(EVEN)
        order = Order(signs)
        signs.reverse()
        signs[0] = ("plus", 4, 9)
        signs.append(("new", 0, 1))
        del signs[1]
        self.assertIs(order.fits(("plus", 0, 1)), True)
        self.assertIs(order.fits(("new",)), False)
        self.assertEqual(order.weight(("plus", 0, 1)), 3)
        self.assertIs(order.greater(("one",), ("zero",)), True)

    def test_orders_do_not_know_of_each_other(self):
        one, other = Order(EVEN), Order(EVEN[::-1])
        self.assertIs(one.greater(("one",), ("zero",)), True)
        self.assertIs(other.greater(("one",), ("zero",)), False)
        self.assertIs(other.greater(("zero",), ("one",)), True)


class FitsTest(unittest.TestCase):
    order = Order(EVEN)

    def test_terms_that_fit(self):
        for term in (0, 999, ("zero",), ("neg", 5), ("plus", 0, ("zero",)), ("times", ("suc", ("one",)), 999)):
            self.assertIs(self.order.fits(term), True, term)

    def assert_unfit(self, part):
        """The part fits neither alone nor within a term, wherever it stands there."""
        self.assertIs(self.order.fits(part), False)
        self.assertIs(self.order.fits(("plus", ("zero",), part)), False)
        self.assertIs(self.order.fits(("plus", part, ("zero",))), False)
        self.assertIs(self.order.fits(("plus", nested(190, part, "neg"), 0)), False)

    def test_a_name_that_is_no_sign(self):
        self.assert_unfit(("two",))
        self.assert_unfit(("zer",))
        self.assert_unfit(("two", 0))

    def test_one_part_more_or_less(self):
        self.assert_unfit(("zero", 0))
        self.assert_unfit(("neg",))
        self.assert_unfit(("neg", 0, 1))
        self.assert_unfit(("plus", 0))
        self.assert_unfit(("plus", 0, 1, 2))

    def test_a_blank_beyond_its_numbers(self):
        self.assert_unfit(1000)
        self.assert_unfit(-1)
        self.assert_unfit(-1000)

    def test_two_hundred_deep(self):
        self.assertIs(self.order.fits(nested(199, ("zero",), "suc")), True)
        self.assertIs(self.order.fits(nested(199, 999, "suc")), True)
        self.assertIs(self.order.fits(nested(199, 1000, "suc")), False)


class WeightTest(unittest.TestCase):
    order = Order([("zero", 0, 2), ("neg", 1, 3), ("plus", 2, 5), ("four", 4, 9)])

    def test_a_blank_weighs_one(self):
        self.assertEqual(self.order.weight(0), 1)
        self.assertEqual(self.order.weight(999), 1)

    def test_all_signs_and_blanks_together(self):
        self.assertEqual(self.order.weight(("zero",)), 2)
        self.assertEqual(self.order.weight(("plus", 7, 7)), 7)
        self.assertEqual(self.order.weight(("plus", ("neg", 3), ("zero",))), 11)
        self.assertEqual(self.order.weight(("four", ("zero",), 0, ("neg", ("zero",)), ("plus", 1, 0))), 24)

    def test_two_hundred(self):
        self.assertEqual(Order(EVEN).weight(nested(199, 0, "suc")), 200)
        self.assertEqual(self.order.weight(nested(200, 0, "neg")), 601)


class GreaterTest(unittest.TestCase):
    order = Order(EVEN)

    def assert_told(self, one, other, word, order=None):
        order = self.order if order is None else order
        turned = {"greater": "less", "less": "greater"}.get(word, word)
        self.assertEqual(order.told(one, other), word)
        self.assertEqual(order.told(other, one), turned)
        self.assertIs(order.greater(one, other), word == "greater")
        self.assertIs(order.greater(other, one), word == "less")

    def test_a_term_and_itself(self):
        for term in (0, 999, ("zero",), ("plus", 0, ("neg", 1))):
            self.assert_told(term, term, "same")

    def test_two_blanks(self):
        self.assert_told(0, 1, "apart")
        self.assert_told(999, 0, "apart")

    def test_heavier(self):
        self.assert_told(("neg", ("zero",)), ("one",), "greater")
        self.assert_told(("plus", 0, ("suc", 1)), ("times", 1, 0), "greater")
        self.assert_told(("plus", 0, 0), ("suc", 0), "greater")

    def test_weights_of_signs_tell_not_their_number(self):
        order = Order([("big", 0, 9), ("neg", 1, 1), ("zero", 0, 1), ("plus", 2, 1)])
        self.assert_told(("big",), nested(7, ("zero",), "neg"), "greater", order)
        self.assert_told(("plus", ("big",), 0), ("plus", 0, ("zero",)), "greater", order)

    def test_heavier_but_a_blank_stands_more_often_in_the_other(self):
        self.assert_told(("neg", ("neg", ("zero",))), 0, "apart")
        self.assert_told(("times", ("neg", 0), ("neg", 1)), ("suc", 2), "apart")
        self.assert_told(("times", ("neg", 0), 1), ("plus", 0, 0), "apart")
        self.assert_told(("times", ("neg", 0), ("neg", ("zero",))), ("plus", 0, 0), "apart")

    def test_a_blank_on_one_side(self):
        self.assert_told(("neg", 0), 0, "greater")
        self.assert_told(("neg", 0), 1, "apart")
        # Both weigh the same, and neither can be greater then.
        self.assert_told(("zero",), 0, "apart")
        self.assert_told(("one",), 999, "apart")

    def test_a_later_sign(self):
        self.assert_told(("one",), ("zero",), "greater")
        self.assert_told(("suc", 0), ("neg", 0), "greater")
        self.assert_told(("times", 0, 0), ("neg", ("neg", 0)), "greater")
        self.assert_told(("times", 0, ("zero",)), ("plus", ("one",), 0), "greater")

    def test_a_later_sign_but_a_blank_stands_more_often_in_the_other(self):
        self.assert_told(("suc", 0), ("neg", 1), "apart")
        self.assert_told(("times", 0, ("zero",)), ("plus", 0, 0), "apart")
        self.assert_told(("times", 0, 1), ("plus", 0, 0), "apart")

    def test_a_later_sign_tells_though_the_parts_say_otherwise(self):
        self.assert_told(("times", ("zero",), ("zero",)), ("plus", ("one",), ("one",)), "greater")

    def test_signs_with_other_numbers_of_parts(self):
        self.assert_told(("plus", ("zero",), ("zero",)), ("neg", ("neg", ("zero",))), "greater")
        self.assert_told(("one",), ("neg", ("zero",)), "less")

    def test_the_same_name_and_the_first_parts_that_differ(self):
        self.assert_told(("plus", ("one",), ("zero",)), ("plus", ("zero",), ("one",)), "greater")
        self.assert_told(("plus", ("neg", 0), 1), ("plus", 0, ("neg", 1)), "greater")
        self.assert_told(("plus", 0, ("suc", 1)), ("plus", 0, ("neg", 1)), "greater")
        self.assert_told(("plus", ("zero",), ("one",)), ("plus", ("zero",), ("zero",)), "greater")

    def test_only_the_first_parts_that_differ_tell(self):
        self.assert_told(("plus", 0, 1), ("plus", 1, 0), "apart")
        self.assert_told(("plus", ("plus", 0, 1), ("one",)), ("plus", ("plus", 1, 0), ("zero",)), "apart")
        four = Order(EVEN + [("four", 4, 1)])
        zero, one = ("zero",), ("one",)
        self.assert_told(("four", zero, one, zero, zero), ("four", zero, zero, one, one), "greater", four)
        self.assert_told(("four", zero, zero, zero, one), ("four", zero, zero, zero, zero), "greater", four)

    def test_a_blank_among_the_first_parts_that_differ(self):
        self.assert_told(("plus", ("zero",), 0), ("plus", 0, ("zero",)), "apart")
        self.assert_told(("plus", ("neg", 0), ("zero",)), ("plus", 0, ("neg", ("zero",))), "greater")

    def test_blanks_are_counted_within_the_parts_too(self):
        # The first parts that differ: the one is heavier, but it has not the other's blank.
        self.assert_told(("plus", ("neg", ("neg", 0)), 1), ("plus", ("neg", 1), ("neg", 0)), "apart")
        self.assert_told(("plus", ("suc", 0), ("neg", 1)), ("plus", ("neg", 1), ("suc", 0)), "apart")

    def test_two_hundred_deep_and_unlike_at_the_bottom_alone(self):
        self.assert_told(nested(199, ("one",), "suc"), nested(199, ("zero",), "suc"), "greater")
        self.assert_told(nested(199, 0, "suc"), nested(199, ("zero",), "suc"), "apart")
        self.assert_told(nested(199, 0, "suc"), nested(199, 1, "suc"), "apart")
        self.assert_told(nested(198, ("suc", 0), "suc"), nested(198, ("neg", 0), "suc"), "greater")
        self.assert_told(nested(199, ("one",), "suc"), nested(199, ("one",), "suc"), "same")
        self.assert_told(nested(197, ("plus", 0, 1), "suc"), nested(197, ("plus", 1, 0), "suc"), "apart")

    def test_somewhat_beyond_the_depth(self):
        self.assert_told(nested(300, ("one",), "suc"), nested(300, ("zero",), "suc"), "greater")

    def test_two_hundred_deep_by_heavy_signs(self):
        order = Order([("zero", 0, 1), ("one", 0, 1), ("suc", 1, 9), ("plus", 2, 2)])
        one = ("plus", nested(20, ("one",), "suc"), ("zero",))
        other = ("plus", nested(20, ("zero",), "suc"), ("one",))
        self.assert_told(one, other, "greater", order)


def plain_weight(term, signs):
    if isinstance(term, int):
        return 1
    own = [weight for name, _, weight in signs if name == term[0]][0]
    return own + sum(plain_weight(part, signs) for part in term[1:])


def count_blanks(term):
    if isinstance(term, int):
        return Counter([term])
    return sum(map(count_blanks, term[1:]), Counter())


def plain_greater(one, other, signs):
    """Point 6, word by word."""
    mine, its = count_blanks(one), count_blanks(other)
    if any(mine[blank] < its[blank] for blank in its):
        return False
    if plain_weight(one, signs) != plain_weight(other, signs):
        return plain_weight(one, signs) > plain_weight(other, signs)
    if isinstance(one, int) or isinstance(other, int):
        return False
    names = [name for name, _, _ in signs]
    if one[0] != other[0]:
        return names.index(one[0]) > names.index(other[0])
    unlike = [pair for pair in zip(one[1:], other[1:]) if pair[0] != pair[1]]
    return bool(unlike) and plain_greater(unlike[0][0], unlike[0][1], signs)


class AllPairsTest(unittest.TestCase):
    """All pairs of small terms, against the words of the document and what they entail."""

    signs = [("z", 0, 1), ("s", 1, 1), ("w", 0, 2), ("p", 2, 1)]
    order = Order(signs)
    terms = all_terms(signs, [0, 1], 5)

    def test_by_the_words_of_the_document(self):
        words = {(False, False): "apart", (True, False): "greater", (False, True): "less"}
        seen = set()
        for one in self.terms:
            for other in self.terms:
                more = plain_greater(one, other, self.signs)
                less = plain_greater(other, one, self.signs)
                word = "same" if one == other else words[more, less]
                self.assertIs(self.order.greater(one, other), more, (one, other))
                self.assertEqual(self.order.told(one, other), word, (one, other))
                seen.add(word)
        self.assertEqual(seen, {"same", "greater", "less", "apart"})

    def test_terms_without_blanks_are_never_apart(self):
        ground = [term for term in self.terms if not blanks(term)]
        for one in ground:
            for other in ground:
                self.assertNotEqual(self.order.told(one, other), "apart")


if __name__ == "__main__":
    unittest.main()
