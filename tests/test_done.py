"""Points 18 and 19: what holds where growth is done."""

import itertools
import random
import unittest

from ruleswood.growing import Wood
from ruleswood.order import Order
from ruleswood.terms import filled
from ruleswood.texts import read_pair
from tests.samples import all_terms
from tests.woods import DONE, WoodCase, end, ends, grown, read_pairs, sown

GROUND = [("a", 0, 1), ("b", 0, 2), ("c", 0, 1), ("f", 1, 1), ("g", 1, 3), ("p", 2, 1)]


def other_blanks(pair):
    return tuple([filled(side, {0: 17, 1: 0, 2: 999, 3: 3}) for side in pair])


def parts_of(term):
    return [term] + [inner for part in term[1:] for inner in parts_of(part)]


def classes(pairs, terms):
    """A table of the class of each term and all its parts, where the pairs' sides are alike: none has blanks."""
    table = {part: part for pair in pairs for side in pair for part in parts_of(side)}
    table.update({part: part for term in terms for part in parts_of(term)})
    # Of each class the term that stands for it; joined until nothing changes.
    wanted = list(pairs)
    while wanted:
        for one, other in wanted:
            old, new = table[one], table[other]
            for term in table:
                if table[term] == old:
                    table[term] = new
        by_parts = {}
        for term in table:
            by_parts.setdefault((term[0],) + tuple([table[part] for part in term[1:]]), []).append(term)
        wanted = [(row[0], term) for row in by_parts.values() for term in row if table[row[0]] != table[term]]
    return table


class StandingTest(WoodCase):
    def assert_stands_alike(self, signs, pairs, wanted):
        wood = Wood(Order(signs), pairs)
        while wood.grow(400) == "growing":
            pass
        self.assertEqual(wood.state, "done")
        self.assertEqual(wood.standing(), wanted, pairs)

    def test_by_hand(self):
        for name, wanted in (
            ("none", []),
            ("three", ["a(a(?0)) = ?0", "b(a(b(?0))) = a(b(a(?0)))", "b(b(?0)) = ?0"]),
            ("five", ["f(a) = a"]),
            ("flat", ["f(?0) = c", "g(?0,?1) = c"]),
            ("same", ["f(?0,?1) = a", "g(?0) = a"]),
            ("sums", ["plus(?0,s(?1)) = s(plus(?0,?1))", "plus(?0,zero) = ?0"]),
            ("central", ["f(?0,f(f(?0,?1),?2)) = f(?0,?1)", "f(f(?0,?1),f(?1,?2)) = ?1",
                         "f(f(?0,f(?1,?2)),?2) = f(?1,?2)"]),
            ("twice", ["f(f(?0)) = g(?0)", "f(g(?0)) = g(f(?0))", "h(h(?0)) = k(?0)", "h(k(?0)) = k(h(?0))"]),
        ):
            told = grown(*DONE[name]).standing()
            self.assertIsInstance(told, list)
            self.assertEqual(told, read_pairs(wanted))

    def test_another_order_turned_and_with_other_blanks(self):
        for name, (signs, lines) in DONE.items():
            with self.subTest(name=name):
                pairs, wanted = read_pairs(lines), grown(signs, lines).standing()
                orders = list(itertools.permutations(pairs))
                for told in orders[:: max(1, len(orders) // 12)] + [tuple(pairs[::-1])]:
                    self.assert_stands_alike(signs, list(told), wanted)
                    self.assert_stands_alike(signs, [pair[::-1] for pair in told], wanted)
                    self.assert_stands_alike(signs, [other_blanks(pair) for pair in told], wanted)
                    half = [pair[::-1] if at % 2 else pair for at, pair in enumerate(told)]
                    self.assert_stands_alike(signs, half, wanted)

    def test_what_follows_told_besides(self):
        for name, (signs, lines) in DONE.items():
            with self.subTest(name=name):
                wood, pairs = grown(signs, lines), read_pairs(lines)
                wanted = wood.standing()
                follows = [(one.left, one.right) for one in wood.book[len(pairs):]] + wanted
                follows += [(filled(left, {0: 1}), filled(right, {0: 1})) for left, right in wanted]
                for more in (follows[:6], follows[-6:], follows[::3][:8], [(("a",), ("a",))] if name == "none" else []):
                    self.assert_stands_alike(signs, pairs + more, wanted)
                    self.assert_stands_alike(signs, more + pairs, wanted)
                if wanted:
                    self.assert_stands_alike(signs, wanted, wanted)


class EndTest(WoodCase):
    def test_whichever_steps_are_taken(self):
        for name, (signs, lines) in DONE.items():
            with self.subTest(name=name):
                wood = grown(signs, lines)
                terms = all_terms(signs, [0, 1], 5)
                for term in terms[:: max(1, len(terms) // 150)]:
                    self.assertEqual(ends(term, wood.rules), {end(term, wood.rules)})

    def test_nothing_that_ever_was_a_rule_is_lost(self):
        for name, (signs, lines) in DONE.items():
            wood, ever = sown(signs, lines), []
            while wood.state == "growing":
                ever.extend(wood.rules)
                wood.grow(1)
            grounds = all_terms(signs, [0, 5], 3)
            for rule in ever[:: max(1, len(ever) // 60)]:
                for one, other in zip(grounds, grounds[::-1]):
                    filling = {0: one, 1: other, 2: one, 3: other}
                    left, right = filled(rule.left, filling), filled(rule.right, filling)
                    self.assertEqual(end(left, wood.rules), end(right, wood.rules))


class GroundTest(WoodCase):
    """Pairs without blanks are always done, and tell what a table of classes tells."""

    TERMS = all_terms(GROUND, [], 3)

    def assert_by_table(self, pairs):
        wood = Wood(Order(GROUND), pairs, 60, 400)
        while wood.grow(400) == "growing":
            pass
        self.assertEqual(wood.state, "done")
        self.assert_sound(wood, Order(GROUND), pairs)
        table = classes(pairs, self.TERMS)
        for one, other in itertools.product(self.TERMS[::2], self.TERMS):
            wanted = "alike" if table[one] == table[other] else "unlike"
            self.assertEqual(wood.told(one, other, 400)[0], wanted, (pairs, one, other))
        for left, right in wood.standing():
            self.assertEqual(classes(pairs, [left, right])[left], classes(pairs, [left, right])[right])

    def test_by_hand(self):
        for lines in (
            ["a = b"],
            ["a = b", "b = c", "c = a"],
            ["f(a) = a", "f(f(a)) = b"],
            ["f(f(f(a))) = a", "f(f(f(f(f(a))))) = a"],
            ["p(a,b) = a", "a = b", "f(p(b,a)) = c"],
            ["p(p(a,b),c) = p(a,p(b,c))", "p(a,b) = c", "p(b,c) = a"],
            ["p(a,a) = p(b,b)", "p(a,c) = p(b,c)", "g(a) = f(b)"],
        ):
            self.assert_by_table(read_pairs(lines))

    def test_many(self):
        terms = all_terms(GROUND, [], 4)
        for seed in range(40):
            chance = random.Random(seed)
            self.assert_by_table([tuple(chance.sample(terms, 2)) for _ in range(chance.randint(1, 8))])

    def test_twenty_pairs(self):
        terms = all_terms(GROUND, [], 4)
        chance = random.Random(7)
        self.assert_by_table([tuple(chance.sample(terms, 2)) for _ in range(20)])

    def test_the_table_itself(self):
        table = classes([read_pair("f(a) = b")], [read_pair("g(f(a)) = g(b)")[0], ("g", ("b",)), ("c",)])
        self.assertEqual(table[("g", ("f", ("a",)))], table[("g", ("b",))])
        self.assertNotEqual(table[("c",)], table[("b",)])


if __name__ == "__main__":
    unittest.main()
