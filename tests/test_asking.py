"""Points 16 and 17: rules that are asked, the last turn, and where growth ends early."""

import unittest

from ruleswood.growing import Wood
from ruleswood.order import Order
from tests.samples import nested
from tests.woods import DONE, NOT_DONE, WoodCase, lines_of, read_pairs, sown

SIGNS = [("a", 0, 1), ("b", 0, 1), ("c", 0, 1), ("d", 0, 1), ("g", 1, 1), ("f", 1, 1), ("p", 2, 1)]
Z = ("z",)


def count_turns(wood):
    """How many turns it takes until growth ends."""
    for many in range(4000):
        if wood.state != "growing":
            return many
        wood.grow(1)
    return None


def tower(many_b, many_a, bottom=Z):
    """A term that wants many_b * many_a steps by b(a(?0)) = a(b(?0))."""
    return nested(many_b, nested(many_a, bottom, "a"), "b")


class AskingTest(WoodCase):
    def test_the_lightest_left_side_first(self):
        # Of each of the two the meeting with itself gives a rule, in the turn behind the one in which it is asked.
        for light, heavy in (("f", "h"), ("h", "f")):
            signs = [("g", 1, 1), ("k", 1, 1), (light, 1, 2), (heavy, 1, 3)]
            for lines in (["f(f(?0)) = g(?0)", "h(h(?0)) = k(?0)"], ["h(h(?0)) = k(?0)", "f(f(?0)) = g(?0)"]):
                wood = sown(signs, lines)
                wood.grow(3)
                self.assertEqual(len(wood.book), 4)
                wood.grow(1)
                self.assertEqual(wood.book[4].left[0], light)

    def test_the_left_side_alone_counts(self):
        # The pair of h is the lighter one, its left side the heavier one.
        signs = [("e", 0, 1), ("k", 1, 1), ("q", 1, 3), ("f", 1, 2), ("h", 1, 2)]
        wood = sown(signs, ["h(h(e)) = e", "h(h(h(?0))) = k(?0)", "f(f(?0)) = q(?0)"])
        wood.grow(3)
        self.assertEqual(lines_of(wood.rules), ["h(h(e)) = e", "h(h(h(?0))) = k(?0)", "f(f(?0)) = q(?0)"])
        # h(h(e)) and f(f(?0)) weigh 5 both, and the former is older; it meets nothing.
        wood.grow(2)
        self.assertEqual(len(wood.book), 6)
        wood.grow(1)
        self.assertEqual(lines_of(wood.book[6:]), ["f(q(?0)) = q(f(?0))"])

    def test_of_several_the_oldest(self):
        signs = [("g", 1, 1), ("k", 1, 1), ("f", 1, 1), ("h", 1, 1)]
        for first, lines in (("f", ["f(f(?0)) = g(?0)", "h(h(?0)) = k(?0)"]),
                             ("h", ["h(h(?0)) = k(?0)", "f(f(?0)) = g(?0)"])):
            wood = sown(signs, lines)
            wood.grow(4)
            self.assertEqual(wood.book[4].left[0], first)

    def test_no_pair(self):
        wood = sown(SIGNS, [])
        self.assertEqual(wood.grow(1), "done")
        self.assertEqual((wood.book, wood.rules, wood.standing()), ([], [], []))

    def test_pairs_wait_ahead_of_asking(self):
        # The rule of the first turn would meet itself in the second one, and wait for a pair that is lighter.
        wood = sown(SIGNS, ["f(f(?0)) = g(?0)", "p(p(p(a,a),a),a) = b"])
        wood.grow(2)
        self.assertEqual(lines_of(wood.rules), ["f(f(?0)) = g(?0)", "p(p(p(a,a),a),a) = b"])

    def test_the_turns_of_small_woods(self):
        for many, lines in (
            (2, ["a = a"]),
            # A rule, asked, and the last turn.
            (3, ["f(a) = b"]),
            # It meets itself, but both terms are the same: no pair waits.
            (3, ["f(f(?0)) = f(?0)"]),
            # The pair of its meeting, f(g(?0)) and g(f(?0)), the asking of that rule, and a pair that is dropped.
            (6, ["f(f(?0)) = g(?0)"]),
            # They meet at (), both ways, but both terms are the same.
            (5, ["p(a,?0) = ?0", "p(?0,a) = ?0"]),
            # They meet at (), both ways: a rule c = b, and a pair that is dropped; then c is asked.
            (8, ["p(a,?0) = b", "p(?0,a) = c"]),
            # Two that never meet.
            (5, ["f(a) = b", "g(a) = b"]),
            # The second rule leaves nothing of the first one but b = a.
            (6, ["f(f(a)) = b", "f(f(?0)) = ?0"]),
        ):
            with self.subTest(lines=lines):
                wood = sown(SIGNS, lines)
                self.assertEqual(count_turns(wood), many)
                self.assertEqual(wood.state, "done")

    def test_met_with_itself(self):
        wood = sown(SIGNS, ["f(f(?0)) = g(?0)"])
        wood.grow(3)
        self.assertEqual(lines_of(wood.rules), ["f(f(?0)) = g(?0)", "f(g(?0)) = g(f(?0))"])

    def test_met_both_ways(self):
        # The left side of either one stands in that of the other, filled.
        signs = [("a", 0, 1), ("b", 0, 1), ("f", 1, 1), ("g", 1, 1), ("h", 1, 1)]
        for lines in (["f(g(?0)) = ?0", "g(h(h(h(?0)))) = ?0"], ["f(g(g(g(?0)))) = ?0", "g(h(?0)) = ?0"]):
            for told in (lines, lines[::-1]):
                wood = sown(signs, told)
                self.assertEqual(wood.grow(400), "done")
                self.assert_sound(wood, Order(signs), read_pairs(told))
                self.assertGreater(len(wood.rules), 2)

    def test_a_rule_that_stands_no_more_is_not_met(self):
        # f(f(a)) is asked and stands no more behind f(a) = a: what it would have met is not heavy then.
        signs = [("a", 0, 1), ("b", 0, 1), ("f", 1, 1), ("q", 1, 9)]
        wood = sown(signs, ["f(f(a)) = a", "f(f(f(a))) = a"])
        self.assertEqual(wood.grow(400), "done")
        self.assertEqual(lines_of(wood.rules), ["f(a) = a"])

    def test_each_done_wood(self):
        for name, (signs, lines) in DONE.items():
            with self.subTest(name=name):
                wood = sown(signs, lines)
                self.assertIsNotNone(count_turns(wood))
                self.assertEqual(wood.state, "done")
                self.assert_sound(wood, Order(signs), read_pairs(lines))


class LastTurnTest(WoodCase):
    def test_right_sides_are_worn_down(self):
        lines = ["p(a,?0) = b", "p(?0,a) = c"]
        wood = sown(SIGNS, lines)
        wood.grow(7)
        self.assertEqual(lines_of(wood.rules), lines + ["c = b"])
        self.assertEqual((wood.state, len(wood.book)), ("growing", 5))
        self.assertEqual(wood.grow(1), "done")
        # The changed one stands behind those that did not change, as its number is greater.
        self.assertEqual(lines_of(wood.rules), ["p(a,?0) = b", "c = b", "p(?0,a) = b"])
        self.assertEqual([rule.number for rule in wood.rules], [2, 4, 5])
        self.assertEqual(lines_of(wood.book), lines + lines + ["c = b", "p(?0,a) = b"])
        self.assertEqual(wood.book[5].chain, [(3, (), True, ("c",)), (4, (), True, ("b",))])
        self.assert_sound(wood, Order(SIGNS), read_pairs(lines))

    def test_several_right_sides(self):
        lines = ["p(a,?0) = b", "p(?0,a) = c", "f(a) = c", "g(g(?0)) = p(c,?0)"]
        wood = sown(SIGNS, lines)
        self.assertEqual(wood.grow(400), "done")
        self.assertEqual(wood.standing(), read_pairs(
            ["c = b", "f(a) = b", "g(g(a)) = b", "p(?0,a) = b", "p(a,?0) = b", "p(b,?0) = g(g(?0))"]))
        self.assert_sound(wood, Order(SIGNS), read_pairs(lines))

    def test_standing_in_the_order_of_the_texts(self):
        lines = ["p(a,?0) = b", "p(?0,a) = c"]
        wood = sown(SIGNS, lines)
        wood.grow(400)
        self.assertEqual(wood.standing(), read_pairs(["c = b", "p(?0,a) = b", "p(a,?0) = b"]))
        signs = [("b", 0, 1), ("a", 0, 2), ("ab", 0, 2), ("aa", 1, 2), ("aaa", 1, 2), ("z", 2, 2)]
        lines = ["z(?0,?1) = b", "aaa(?0) = b", "aa(?0) = b", "ab = b", "a = b"]
        for told in (lines, lines[::-1]):
            wood = sown(signs, told)
            for _ in range(12):
                wood.grow(1)
                self.assertEqual(wood.standing(), read_pairs(sorted(lines_of(wood.rules))))
            wanted = ["a = b", "aa(?0) = b", "aaa(?0) = b", "ab = b", "z(?0,?1) = b"]
            self.assertEqual(wood.standing(), read_pairs(wanted))

    def test_turns_behind_it_change_nothing(self):
        for signs, lines in DONE.values():
            wood = sown(signs, lines)
            wood.grow(400)
            before = (list(wood.book), list(wood.rules), wood.standing())
            for many in (0, 1, 400):
                self.assertEqual(wood.grow(many), "done")
                self.assertEqual((wood.book, wood.rules, wood.standing()), before)

    def test_the_lists_are_the_callers_own(self):
        wood = sown(*DONE["sums"])
        wood.grow(400)
        told = wood.standing()
        wood.standing().clear()
        wood.standing().append(None)
        self.assertEqual(wood.standing(), told)
        self.assertEqual(len(wood.rules), 2)


class MostEntriesTest(WoodCase):
    def assert_enough(self, wood, told, signs=SIGNS):
        self.assertEqual(wood.state, "enough")
        self.assertIsNone(wood.odds)
        before = (list(wood.book), list(wood.rules))
        for many in (0, 1, 400):
            self.assertEqual(wood.grow(many), "enough")
            self.assertEqual((wood.book, wood.rules), before)
        self.assert_sound(wood, Order(signs), told)

    def test_just_so_and_by_one(self):
        lines = ["f(a) = b", "g(a) = c"]
        wood = sown(SIGNS, lines, 60, 4)
        self.assertEqual((wood.grow(400), len(wood.book)), ("done", 4))
        wood = sown(SIGNS, lines, 60, 3)
        self.assertEqual((wood.grow(1), len(wood.book)), ("growing", 3))
        self.assertEqual((wood.grow(1), len(wood.book), len(wood.rules)), ("enough", 3, 1))
        self.assert_enough(wood, read_pairs(lines))

    def test_the_told_pairs_alone_are_more(self):
        wood = sown(SIGNS, ["a = a", "f(a) = b", "g(a) = c"], 60, 1)
        self.assertEqual((wood.state, len(wood.book)), ("growing", 3))
        self.assertEqual(wood.grow(1), "growing")
        self.assertEqual((wood.grow(1), len(wood.book), wood.rules), ("enough", 3, []))
        self.assertEqual(sown(SIGNS, ["a = a", "b = b"], 60, 1).grow(400), "done")

    def test_a_pair_that_is_dropped_or_stuck_wants_no_entry(self):
        self.assertEqual(sown(SIGNS, ["f(a) = b", "f(f(a)) = f(b)"], 60, 3).grow(400), "done")
        self.assertEqual(sown(SIGNS, ["f(a) = b", "p(?0,?1) = p(?1,?0)"], 60, 3).grow(400), "stuck")

    def test_new_entries_of_the_last_turn_are_let_be(self):
        wood = sown(SIGNS, ["p(a,?0) = b", "p(?0,a) = c"], 60, 5)
        self.assertEqual((wood.grow(400), len(wood.book)), ("done", 6))
        wood = sown(SIGNS, ["p(a,?0) = b", "p(?0,a) = c"], 60, 4)
        self.assertEqual((wood.grow(400), len(wood.book)), ("enough", 4))

    def endless(self, *bounds):
        """A wood that has ever more rules, f(g(..g(f(?0))..)) = g(..g(f(?0))..), and ten that meet nothing."""
        signs = [("g", 1, 1), ("f", 1, 1)] + [(name, 0, 1) for name in "bcdehijklmn"]
        wood = sown(signs, [f"{name} = b" for name in "cdehijklmn"] + ["f(g(f(?0))) = g(f(?0))"], *bounds)
        while wood.grow(400) == "growing":
            pass
        return wood

    def test_left_out_it_is_sixty(self):
        wood = self.endless()
        self.assertEqual((wood.state, len(wood.book)), ("enough", 60))
        self.assertEqual(lines_of(wood.book), lines_of(self.endless(60, 60).book))
        self.assertEqual(len(self.endless(60, 61).book), 61)
        self.assertEqual(len(self.endless(60, 59).book), 59)

    def test_four_hundred(self):
        wood = self.endless(66, 400)
        self.assertEqual(wood.state, "enough")
        self.assertGreater(len(wood.book), 61)


class HeaviestTest(WoodCase):
    SIGNS = [("a", 0, 1), ("b", 0, 1), ("c", 0, 1), ("s", 1, 1), ("t", 1, 9), ("p", 2, 1)]

    def wood(self, one, other, *bounds):
        """A wood whose one meeting is at p(one,other), with both terms the same."""
        return Wood(Order(self.SIGNS), [(("p", one, 0), ("c",)), (("p", 0, other), ("c",))], *bounds)

    def test_just_so_and_by_one(self):
        for heaviest in (3, 10, 11, 40, 99, 100):
            one = nested((heaviest - 3) // 2, ("a",))
            other = nested(heaviest - 3 - (heaviest - 3) // 2, ("b",))
            self.assertEqual(self.wood(one, other, heaviest).grow(400), "done")
            self.assertEqual(self.wood(one, other, heaviest - 1).grow(400), "enough")

    def test_left_out_it_is_sixty(self):
        self.assertEqual(self.wood(nested(29, ("a",)), nested(28, ("b",))).grow(400), "done")
        self.assertEqual(self.wood(nested(29, ("a",)), nested(29, ("b",))).grow(400), "enough")

    def test_weights_are_those_of_the_order(self):
        one, other = ("t", ("t", ("a",))), ("t", ("b",))
        self.assertEqual(self.wood(one, other, 30).grow(400), "done")
        self.assertEqual(self.wood(one, other, 29).grow(400), "enough")

    def test_the_turn_in_which_it_is_met(self):
        wood = self.wood(nested(9, ("a",)), nested(9, ("b",)), 20)
        # Two rules, the asking of the first one, and that of the second one, which meets it.
        self.assertEqual(wood.grow(3), "growing")
        self.assertEqual((wood.grow(1), len(wood.book), len(wood.rules)), ("enough", 4, 2))

    def test_a_meeting_of_a_rule_with_itself(self):
        signs = [("g", 1, 1), ("f", 1, 1)]
        self.assertEqual(sown(signs, ["f(f(?0)) = f(?0)"], 4).grow(400), "done")
        self.assertEqual(sown(signs, ["f(f(?0)) = f(?0)"], 3).grow(400), "enough")
        self.assertEqual(sown(signs, ["f(f(?0)) = f(?0)"], 1).grow(400), "enough")

    def test_refused_as_too_heavy(self):
        signs = [("b", 0, 1), ("f", 1, 1), ("p", 2, 1)]
        for heaviest in (1, 50, 100):
            wood = Wood(Order(signs), [(nested(100, 0, "f"), 0)], heaviest)
            self.assertEqual(wood.grow(2), "enough")
            self.assertEqual(len(wood.rules), 1)

    def test_told_pairs_may_be_heavier(self):
        wood = Wood(Order(self.SIGNS), [(nested(190, ("a",)), ("b",))], 1)
        self.assertEqual(wood.grow(400), "done")
        self.assertEqual(wood.standing(), [(nested(190, ("a",)), ("b",))])

    def test_both_ways(self):
        # Only the meeting of the heavier left side with the lighter one is there.
        signs = [("c", 0, 1), ("f", 1, 1), ("g", 1, 1), ("p", 2, 1)]
        lines = ["p(f(g(?0)),c) = c", "g(g(c)) = c"]
        for told in (lines, lines[::-1]):
            self.assertEqual(sown(signs, told, 6).grow(400), "done")
            self.assertEqual(sown(signs, told, 5).grow(400), "enough")

    def test_woods_that_end_early_are_sound(self):
        for signs, lines in NOT_DONE.values():
            for bounds in ((60, 12), (9, 60), (7, 9), (1, 60), (100, 20)):
                wood = sown(signs, lines, *bounds)
                while wood.grow(50) == "growing":
                    pass
                self.assertIn(wood.state, ("stuck", "enough"))
                self.assert_sound(wood, Order(signs), read_pairs(lines))


class MostStepsTest(WoodCase):
    """400 steps to wear down a side, and 401: 401 by a name that wants one more."""

    SIGNS = [("z", 0, 1), ("o", 0, 1), ("y", 0, 1), ("a", 1, 1), ("b", 1, 1), ("h", 3, 1), ("p", 2, 1), ("w", 1, 9)]
    SWAP = "b(a(?0)) = a(b(?0))"

    def test_a_side_of_a_pair(self):
        for bottom, wanted in ((Z, "done"), (("y",), "enough")):
            for turn in (1, -1):
                pair = (tower(20, 20, bottom), nested(20, nested(20, Z, "b"), "a"))[::turn]
                wood = Wood(Order(self.SIGNS), read_pairs([self.SWAP, "y = z"]) + [pair])
                wood.grow(2)
                self.assertEqual(len(wood.rules), 2)
                wood.grow(1)
                self.assertEqual(wood.state, "enough" if wanted == "enough" else "growing")
                self.assertEqual(len(wood.book), 5)
                self.assertEqual(wood.grow(400), wanted)
                self.assert_sound(wood, Order(self.SIGNS), read_pairs([self.SWAP, "y = z"]) + [pair])

    def test_a_side_that_becomes_a_rule(self):
        for turn in (1, -1):
            pair = (("w", ("w", tower(20, 20))), ("o",))[::turn]
            wood = Wood(Order(self.SIGNS), read_pairs([self.SWAP]) + [pair])
            self.assertEqual(wood.grow(400), "done")
            self.assertEqual(len(wood.book[3].chain), 401)
            self.assert_sound(wood, Order(self.SIGNS), read_pairs([self.SWAP]) + [pair])

    def test_each_side_counts_alone(self):
        pair = (("w", tower(20, 20)), tower(20, 20))
        wood = Wood(Order(self.SIGNS), read_pairs([self.SWAP]) + [pair])
        self.assertEqual(wood.grow(400), "done")
        self.assertEqual(len(wood.book[3].chain), 801)

    def last_turn(self, bottom):
        """A wood whose right side wants its steps in the last turn: the rules for them come out of meetings."""
        lines = ["h(o,?0,?1) = b(a(?1))", "h(?0,o,?1) = a(b(?1))", "p(o,?0) = y", "p(?0,o) = z"]
        pair = (nested(6, Z, "w"), tower(20, 20, bottom))
        wood = Wood(Order(self.SIGNS), read_pairs(lines) + [pair])
        wood.grow(400)
        return wood, read_pairs(lines) + [pair]

    def test_a_right_side_in_the_last_turn(self):
        wood, told = self.last_turn(Z)
        self.assertEqual(wood.state, "done")
        self.assertIn((nested(6, Z, "w"), nested(20, nested(20, Z, "b"), "a")), wood.standing())
        self.assertIn(401, [len(one.chain) for one in wood.book])
        self.assert_sound(wood, Order(self.SIGNS), told)
        wood, told = self.last_turn(("y",))
        self.assertEqual(wood.state, "enough")
        self.assert_sound(wood, Order(self.SIGNS), told)


if __name__ == "__main__":
    unittest.main()
