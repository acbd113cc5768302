"""Points 14 and 15: woods as they are sown, and the pairs that wait made into rules."""

import inspect
import unittest

from ruleswood.errors import NoTerm, WoodError
from ruleswood.growing import Wood
from ruleswood.order import Order
from ruleswood.steps import walked
from ruleswood.terms import blanks
from ruleswood.texts import read, read_pair
from tests.samples import nested
from tests.woods import DONE, NOT_DONE, WoodCase, lines_of, read_pairs, sown

SIGNS = [("a", 0, 1), ("b", 0, 1), ("c", 0, 1), ("f", 1, 1), ("g", 1, 1), ("h", 2, 1), ("heavy", 1, 9)]


def turns(wood, many):
    """The rules that stand behind each turn."""
    rows = []
    for _ in range(many):
        wood.grow(1)
        rows.append(lines_of(wood.rules))
    return rows


class SownTest(WoodCase):
    def test_no_pair(self):
        wood = sown(SIGNS, [])
        self.assertEqual((wood.book, wood.rules, wood.state, wood.odds), ([], [], "growing", None))
        self.assertEqual(wood.standing(), [])

    def test_the_told_pairs_are_the_first_entries(self):
        lines = ["f(a) = b", "b = f(a)", "?7 = ?7", "f(?9) = g(?3)", "f(a) = b"]
        wood = sown(SIGNS, lines)
        self.assertEqual(lines_of(wood.book), lines)
        self.assertEqual([one.number for one in wood.book], [0, 1, 2, 3, 4])
        self.assertEqual([one.chain for one in wood.book], [[]] * 5)
        self.assertEqual((wood.rules, wood.state, wood.odds), ([], "growing", None))
        self.assert_sound(wood, Order(SIGNS), read_pairs(lines))

    def test_with_no_turn_it_grows(self):
        wood = sown(SIGNS, ["f(a) = b"])
        self.assertEqual(wood.grow(0), "growing")
        self.assertEqual((len(wood.book), wood.rules, wood.state), (1, [], "growing"))

    def test_twenty_pairs(self):
        lines = [f"{'f(' * k}a{')' * k} = b" for k in range(1, 21)]
        wood = sown(SIGNS, lines)
        self.assertEqual(lines_of(wood.book), lines)
        self.assertEqual(wood.grow(400), "done")
        self.assertEqual(wood.standing(), read_pairs(["f(a) = b", "f(b) = b"]))
        self.assert_sound(wood, Order(SIGNS), read_pairs(lines))

    def test_sides_that_do_not_fit(self):
        good = [read_pair("f(a) = b"), read_pair("g(?0) = h(?0,?999)")]
        wrong = [("d",), ("f",), ("f", ("a",), ("a",)), ("a", ("a",)), ("h", 0), 1000, 1999, ("f", 1000),
                 ("h", 0, ("f", ("d",))), ("h", 0, ("f", 1000)), ("F", 0), nested(199, 1000, "f")]
        for term in wrong:
            for pair in ((term, ("a",)), (("a",), term), (term, term)):
                for at in range(3):
                    with self.subTest(pair=pair, at=at), self.assertRaises(NoTerm):
                        Wood(Order(SIGNS), good[:at] + [pair] + good[at:])
                with self.assertRaises(NoTerm):
                    Wood(Order(SIGNS), [pair])
        self.assertTrue(issubclass(NoTerm, WoodError))

    def test_the_handed_list_changed_afterwards(self):
        lines = ["f(f(?0)) = g(?0)", "g(a) = b"]
        pairs, signs = read_pairs(lines), list(SIGNS)
        wood, other = Wood(Order(signs), pairs), sown(SIGNS, lines)
        self.assertEqual(pairs, read_pairs(lines))
        pairs.clear()
        signs.clear()
        self.assertEqual(lines_of(wood.book), lines)
        wood.grow(1)
        pairs.append(read_pair("a = b"))
        self.assertEqual(wood.grow(400), other.grow(400))
        self.assertEqual(lines_of(wood.book), lines_of(other.book))

    def test_the_handed_list_stays(self):
        pairs = read_pairs(["f(f(?0)) = g(?0)", "b = g(a)"])
        Wood(Order(SIGNS), pairs).grow(400)
        self.assertEqual(pairs, read_pairs(["f(f(?0)) = g(?0)", "b = g(a)"]))

    def test_arguments(self):
        parameters = inspect.signature(Wood).parameters
        self.assertEqual(list(parameters), ["order", "pairs", "heaviest", "most_entries"])
        self.assertEqual((parameters["heaviest"].default, parameters["most_entries"].default), (60, 60))
        wood = Wood(most_entries=2, heaviest=9, pairs=[read_pair("f(a) = a")], order=Order(SIGNS))
        self.assertEqual(wood.grow(400), "done")

    def test_fields_are_set_on_the_object(self):
        self.assertLessEqual({"book", "rules", "state", "odds"}, set(vars(sown(SIGNS, []))))


class PairTest(WoodCase):
    def assert_turns(self, lines, wanted, signs=SIGNS):
        wood = sown(signs, lines)
        self.assertEqual(turns(wood, len(wanted)), wanted)
        self.assert_sound(wood, Order(signs), read_pairs(lines))
        return wood

    def test_the_lightest_pair_first(self):
        self.assert_turns(["g(g(g(a))) = a", "f(b) = b"], [["f(b) = b"], ["f(b) = b", "g(g(g(a))) = a"]])

    def test_both_weights_count(self):
        # By the left sides alone, or by the greater sides alone, the second would be the lighter one.
        self.assert_turns(["g(g(g(a))) = a", "g(g(b)) = f(f(b))"], [["g(g(g(a))) = a"]])
        self.assert_turns(["g(g(b)) = f(f(b))", "g(g(g(a))) = a"], [["g(g(g(a))) = a"]])
        self.assert_turns(["f(f(b)) = g(g(b))", "a = g(g(g(a)))"], [["g(g(g(a))) = a"]])

    def test_weights_are_those_of_the_order(self):
        self.assert_turns(["heavy(a) = a", "f(f(f(f(f(a))))) = b"], [["f(f(f(f(f(a))))) = b"]])
        self.assert_turns(["h(?0,?1) = ?0", "f(f(f(?0))) = ?0"], [["h(?0,?1) = ?0"]])

    def test_of_several_the_one_that_waits_longest(self):
        lines = ["g(g(a)) = a", "f(b) = g(c)", "g(a) = f(b)", "g(c) = g(b)"]
        self.assert_turns(lines, [["g(g(a)) = a"], ["g(g(a)) = a", "g(c) = f(b)"]])
        self.assert_turns(lines[::-1], [["g(c) = g(b)"]])

    def test_what_waits_anew_waits_the_shortest(self):
        # f(f(a)) = b waits again behind the second turn, and weighs as much as the pair told last.
        lines = ["f(f(a)) = b", "f(f(?0)) = ?0", "g(g(c)) = c"]
        self.assert_turns(lines, [
            ["f(f(a)) = b"],
            ["f(f(?0)) = ?0"],
            ["f(f(?0)) = ?0", "g(g(c)) = c"],
            ["f(f(?0)) = ?0", "g(g(c)) = c", "b = a"],
        ])

    def test_both_sides_are_worn_down(self):
        self.assert_turns(["f(a) = b", "h(f(a),g(f(a))) = g(f(a))"], [["f(a) = b"], ["f(a) = b", "h(b,g(b)) = g(b)"]])

    def test_dropped_where_they_are_the_same(self):
        wood = self.assert_turns(["f(a) = b", "f(a) = f(a)", "g(f(a)) = g(b)", "?0 = ?0"], [[]] + [["f(a) = b"]] * 3)
        self.assertEqual((len(wood.book), wood.state), (5, "growing"))
        wood = self.assert_turns(["?5 = ?5"], [[]])
        self.assertEqual((len(wood.book), wood.state), (1, "growing"))

    def test_the_greater_side_left(self):
        for lines in (["f(a) = b"], ["b = f(a)"]):
            wood = self.assert_turns(lines, [["f(a) = b"]])
            self.assertEqual(wood.rules, wood.book[1:])
        self.assert_turns(["a = b"], [["b = a"]])
        self.assert_turns(["f(a) = g(a)"], [["g(a) = f(a)"]])
        self.assert_turns(["h(a,c) = h(b,b)"], [["h(b,b) = h(a,c)"]])

    def test_the_chain_of_a_pair_as_it_was_told(self):
        self.assertEqual(self.assert_turns(["f(?0) = ?0"], [["f(?0) = ?0"]]).book[1].chain, [(0, (), True, 0)])
        self.assertEqual(self.assert_turns(["?0 = f(?0)"], [["f(?0) = ?0"]]).book[1].chain, [(0, (), False, 0)])

    def test_blanks_numbered_as_they_first_stand(self):
        self.assert_turns(["h(?7,f(?3)) = ?3"], [["h(?0,f(?1)) = ?1"]])
        self.assert_turns(["?999 = f(?999)"], [["f(?0) = ?0"]])
        self.assert_turns(["h(?1,h(?0,?1)) = h(?1,?0)"], [["h(?0,h(?1,?0)) = h(?0,?1)"]])
        self.assert_turns(["?1 = h(?0,?1)"], [["h(?0,?1) = ?1"]])

    def test_blanks_on_the_way_that_the_sides_have_not(self):
        lines = ["f(?0) = a", "h(f(?7),h(f(?999),?5)) = ?5"]
        wood = self.assert_turns(lines, [["f(?0) = a"], ["f(?0) = a", "h(a,h(a,?0)) = ?0"]])
        chain = wood.book[-1].chain
        self.assert_leads(wood.book[:3], wood.book[-1].left, chain, wood.book[-1].right)
        self.assertTrue(any(len(blanks(step[3])) > 1 for step in chain))

    def test_the_chain_by_lower_entries(self):
        for signs, lines in list(DONE.values()) + list(NOT_DONE.values()):
            wood = sown(signs, lines)
            wood.grow(60)
            for one in wood.book[len(lines):]:
                self.assertTrue(all(0 <= step[0] < one.number for step in one.chain))
                self.assert_leads(wood.book[:one.number], one.left, one.chain, one.right)

    def test_a_rule_that_stands_no_more_waits(self):
        wood = self.assert_turns(["f(f(a)) = b", "f(f(?0)) = ?0"], [
            ["f(f(a)) = b"], ["f(f(?0)) = ?0"], ["f(f(?0)) = ?0", "b = a"],
        ])
        # The pair is shown by the entry that stands no more, and not by the told one.
        self.assertEqual(lines_of(wood.book[2:]), ["f(f(a)) = b", "f(f(?0)) = ?0", "b = a"])
        self.assertEqual(wood.book[4].chain, [(2, (), False, read("f(f(a))")), (3, (), True, ("a",))])

    def test_within_a_left_side_too(self):
        lines = ["h(g(f(a)),c) = b", "g(f(?0)) = f(g(?0))"]
        self.assert_turns(lines, [
            ["h(g(f(a)),c) = b"],
            ["g(f(?0)) = f(g(?0))"],
            ["g(f(?0)) = f(g(?0))", "h(f(g(a)),c) = b"],
        ])

    def test_a_right_side_is_let_be(self):
        # The last pair is worn down to f(b) = f(a), which can step on a right side that stands.
        lines = ["h(?0,?0) = ?0", "g(g(a)) = f(b)", "h(f(b),f(b)) = h(f(a),f(a))"]
        self.assert_turns(lines, [
            ["h(?0,?0) = ?0"],
            ["h(?0,?0) = ?0", "g(g(a)) = f(b)"],
            ["h(?0,?0) = ?0", "g(g(a)) = f(b)", "f(b) = f(a)"],
        ])

    def test_several_rules_that_stand_no_more(self):
        lines = ["f(f(a)) = b", "f(f(c)) = c", "g(g(a)) = a", "f(f(?0)) = ?0"]
        self.assert_turns(lines, [
            ["f(f(a)) = b"],
            ["f(f(a)) = b", "f(f(c)) = c"],
            ["f(f(a)) = b", "f(f(c)) = c", "g(g(a)) = a"],
            ["g(g(a)) = a", "f(f(?0)) = ?0"],
        ])


class StuckTest(WoodCase):
    def test_neither_side_is_greater(self):
        wood = sown(SIGNS, ["h(?0,?1) = h(?1,?0)"])
        self.assertEqual(wood.grow(1), "stuck")
        self.assertEqual((wood.state, wood.rules, len(wood.book)), ("stuck", [], 1))
        self.assertEqual(wood.odds, (read("h(?0,?1)"), read("h(?1,?0)"), [(0, (), True, read("h(?1,?0)"))]))
        self.assert_sound(wood, Order(SIGNS), read_pairs(["h(?0,?1) = h(?1,?0)"]))

    def test_two_blanks(self):
        wood = sown(SIGNS, ["?5 = ?3"])
        self.assertEqual(wood.grow(400), "stuck")
        self.assertEqual(wood.odds, (5, 3, [(0, (), True, 3)]))

    def test_both_sides_worn_down(self):
        for line in ("h(f(?0),?1) = h(?1,f(a))", "h(?1,f(a)) = h(f(?0),?1)"):
            lines = ["f(?0) = a", line]
            wood = sown(SIGNS, lines)
            self.assertEqual(wood.grow(2), "stuck")
            one, other, chain = wood.odds
            self.assertEqual({one, other}, {("h", ("a",), 1), ("h", 1, ("a",))})
            self.assertEqual(walked(wood.book, one, chain), other)
            self.assert_sound(wood, Order(SIGNS), read_pairs(lines))

    def test_out_of_a_meeting(self):
        wood = sown(*NOT_DONE["late"])
        self.assertEqual(wood.grow(400), "stuck")
        self.assertEqual({wood.odds[0][0], wood.odds[1][0]}, {"p"})
        self.assert_sound(wood, Order(NOT_DONE["late"][0]), read_pairs(NOT_DONE["late"][1]))

    def test_turns_behind_it_change_nothing(self):
        wood = sown(SIGNS, ["f(?0) = ?0", "h(?0,?1) = h(?1,?0)", "g(g(g(g(a)))) = b"])
        self.assertEqual(wood.grow(2), "stuck")
        before = (list(wood.book), list(wood.rules), wood.odds, wood.standing())
        for many in (0, 1, 400):
            self.assertEqual(wood.grow(many), "stuck")
            self.assertEqual((wood.book, wood.rules, wood.odds, wood.standing()), before)


class GrowTest(WoodCase):
    def test_each_turn_of_each_wood(self):
        for name, (signs, lines) in list(DONE.items()) + list(NOT_DONE.items()):
            with self.subTest(name=name):
                wood, order, told = sown(signs, lines), Order(signs), read_pairs(lines)
                for _ in range(30):
                    self.assert_sound(wood, order, told)
                    self.assertEqual(wood.grow(1), wood.state)
                self.assert_sound(wood, order, told)

    def test_many_turns_are_as_many_single_ones(self):
        for signs, lines in DONE.values():
            for step in (2, 3, 7):
                one, other = sown(signs, lines), sown(signs, lines)
                for _ in range(9):
                    for _ in range(step):
                        one.grow(1)
                    other.grow(step)
                    self.assertEqual(one.state, other.state)
                    self.assertEqual(lines_of(one.book), lines_of(other.book))
                    self.assertEqual(lines_of(one.rules), lines_of(other.rules))

    def test_two_woods_at_once(self):
        order = Order(SIGNS)
        pairs = read_pairs(["f(f(?0)) = g(?0)", "h(?0,?0) = f(?0)"])
        one, other, alone = Wood(order, pairs), Wood(order, pairs, 3), Wood(order, pairs)
        for _ in range(60):
            one.grow(1)
            other.grow(2)
            alone.told(("f", 0), ("g", 0), 400)
            alone.grow(1)
            self.assertEqual((one.state, lines_of(one.book)), (alone.state, lines_of(alone.book)))
        self.assertEqual((one.state, other.state), ("done", "enough"))
        self.assertIsNot(one.book, other.book)


if __name__ == "__main__":
    unittest.main()
