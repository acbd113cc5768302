"""Point 21: pairs that can be spared."""

import copy
import random
import unittest

from ruleswood.errors import NoTerm, TooLong
from ruleswood.order import Order
from ruleswood.sparing import spared
from ruleswood.texts import read_pair
from tests.samples import all_terms, nested
from tests.test_done import GROUND, classes
from tests.woods import DONE, grown, read_pairs

SIGNS = [("z", 0, 1), ("y", 0, 1), ("x", 0, 1), ("a", 1, 1), ("b", 1, 1), ("p", 2, 1)]


def kept(lines, most=400, signs=SIGNS):
    return spared(Order(signs), read_pairs(lines), most)


class SparedTest(unittest.TestCase):
    def test_no_pair(self):
        for most in (0, 1, 400):
            self.assertEqual(kept([], most), [])

    def test_none_spared(self):
        self.assertEqual(kept(["a(?0) = ?0"]), [0])
        self.assertEqual(kept(["a(z) = z", "b(z) = z", "y = z"]), [0, 1, 2])
        self.assertEqual(kept(DONE["sums"][1], 400, DONE["sums"][0]), [0, 1])

    def test_all_of_one_pair_said_twice(self):
        self.assertEqual(kept(["a(z) = z", "a(z) = z"]), [0])
        self.assertEqual(kept(["a(z) = z", "b(z) = z", "z = a(z)", "b(z) = z"]), [0, 1])
        self.assertEqual(kept(["a(?0) = ?0", "a(?5) = ?5", "?7 = a(?7)"]), [0])

    def test_the_last_one_first(self):
        # Any two of the three tell the third one; the last one is left out.
        lines = ["x = y", "y = z", "z = x"]
        self.assertEqual(kept(lines), [0, 1])
        self.assertEqual(kept(lines[::-1]), [0, 1])
        # The first tells the others, the others together the first.
        self.assertEqual(kept(["a(?0) = ?0", "a(z) = z", "a(y) = y"]), [0])
        self.assertEqual(kept(["a(z) = z", "a(y) = y", "a(?0) = ?0"]), [2])
        self.assertEqual(kept(["a(y) = y", "a(?0) = ?0", "a(z) = z"]), [1])

    def test_the_pairs_that_are_kept_still(self):
        # Were all others taken, both of the same would be left out.
        self.assertEqual(kept(["x = y", "x = y", "a(x) = a(y)", "y = x"]), [0])
        self.assertEqual(kept(["p(x,z) = p(y,z)", "x = y", "p(z,x) = p(z,y)"]), [1])

    def test_what_follows_by_growth_alone(self):
        lines = ["a(a(?0)) = ?0", "b(b(?0)) = ?0", "a(b(a(?0))) = b(a(b(?0)))", "a(b(a(b(a(b(?0)))))) = ?0"]
        self.assertEqual(kept(lines), [0, 1, 2])
        # By the three others a(a(?0)) = ?0 follows, too.
        self.assertEqual(kept(lines[::-1]), [0, 1, 2])
        lines = ["a(a(a(?0))) = ?0", "a(a(?0)) = ?0", "a(?0) = ?0"]
        self.assertEqual(kept(lines), [0, 1])
        self.assertEqual(kept(lines[::-1]), [0])

    def test_a_pair_with_two_like_sides(self):
        for most in (0, 1, 400):
            self.assertEqual(kept(["z = z"], most), [])
            self.assertEqual(kept(["?0 = ?0", "a(z) = z", "p(?1,?2) = p(?1,?2)"], most), [1])

    def test_no_turn(self):
        self.assertEqual(kept(["a(z) = z", "a(z) = z", "z = a(z)"], 0), [0, 1, 2])

    def test_as_many_turns_as_told(self):
        # Two turns make the two rules by which x = z is told, one turn makes but one of them.
        lines = ["x = y", "y = z", "z = x"]
        self.assertEqual([kept(lines, most) for most in (0, 1, 2, 3)], [[0, 1, 2], [0, 1, 2], [0, 1], [0, 1]])
        # The third turn asks the rule, the fourth one gives the rule that is wanted.
        lines = ["b(b(?0)) = a(?0)", "b(a(z)) = a(b(z))"]
        self.assertEqual([kept(lines, most) for most in (0, 1, 2, 3, 4)], [[0, 1]] * 3 + [[0]] * 2)

    def test_a_wood_that_is_stuck_tells_alike(self):
        self.assertEqual(kept(["p(?0,?1) = p(?1,?0)", "a(z) = z", "a(a(z)) = z"]), [0, 1])
        self.assertEqual(kept(["p(?0,?1) = p(?1,?0)", "p(z,y) = p(y,z)"]), [0, 1])

    def test_with_the_defaults(self):
        # By heaviest 60 the two rules that meet are enough: they do not tell y = z.
        signs = SIGNS + [("w", 1, 9)]
        for many, wanted in ((6, [0, 1]), (7, [0, 1, 2])):
            heavy = nested(many, ("x",), "w")
            pairs = [(("p", heavy, 0), ("y",)), (("p", 0, ("x",)), ("z",)), (("y",), ("z",))]
            # The term where both meet weighs 9 for each w, one for p, and one for each x.
            self.assertEqual(9 * many + 3 <= 60, wanted == [0, 1])
            self.assertEqual(spared(Order(signs), pairs, 400), wanted)

    def test_a_side_that_wants_many_steps(self):
        for many, wanted in ((20, [0]), (21, [0, 1])):
            pair = (nested(20, nested(many, ("z",), "a"), "b"), nested(many, nested(20, ("z",), "b"), "a"))
            for told in (pair, pair[::-1]):
                pairs = [read_pair("b(a(?0)) = a(b(?0))"), told]
                self.assertEqual(spared(Order(SIGNS), pairs, 2), wanted)
                self.assertEqual(spared(Order(SIGNS), pairs, 400), wanted)
        with self.assertRaises(TooLong):
            wood = grown(SIGNS, ["b(a(?0)) = a(b(?0))"])
            wood.told(pair[0], pair[1], 400)

    def test_a_pair_that_does_not_fit(self):
        good = read_pairs(["a(z) = z", "a(z) = z"])
        for term in (("q",), ("a",), ("z", ("z",)), 1000, ("p", 0, ("a", 1000))):
            for pair in ((term, ("z",)), (("z",), term), (term, term)):
                for most in (0, 400):
                    for at in range(3):
                        with self.assertRaises(NoTerm):
                            spared(Order(SIGNS), good[:at] + [pair] + good[at:], most)
                    with self.assertRaises(NoTerm):
                        spared(Order(SIGNS), [pair], most)

    def test_what_was_handed_in_stays(self):
        pairs = read_pairs(["a(z) = z", "b(z) = z", "b(a(z)) = a(b(z))"])
        before = copy.deepcopy(pairs)
        told = spared(Order(SIGNS), pairs, 400)
        self.assertIsInstance(told, list)
        told.append(None)
        self.assertEqual(pairs, before)
        self.assertEqual(spared(Order(SIGNS), pairs, 400), [0, 1])

    def test_two_hundred_deep(self):
        deep = nested(199, ("z",), "a")
        self.assertEqual(spared(Order(SIGNS), [(deep, ("z",)), (deep, ("z",))], 400), [0])
        self.assertEqual(spared(Order(SIGNS), [read_pair("a(?0) = ?0"), (deep, ("z",))], 400), [0])

    def test_ground_pairs_against_a_table(self):
        terms = all_terms(GROUND, [], 3)
        for seed in range(25):
            chance = random.Random(seed)
            pairs = [tuple(chance.sample(terms, 2)) for _ in range(chance.randint(2, 9))]
            wanted = list(range(len(pairs)))
            for at in range(len(pairs))[::-1]:
                others = [pairs[number] for number in wanted if number != at]
                table = classes(others, list(pairs[at]))
                if table[pairs[at][0]] == table[pairs[at][1]]:
                    wanted.remove(at)
            self.assertEqual(spared(Order(GROUND), pairs, 400), wanted)

    def test_the_wood_of_those_that_are_kept_is_the_same(self):
        for signs, lines in DONE.values():
            wood = grown(signs, lines)
            more = lines + lines[::-1]
            told = spared(Order(signs), read_pairs(more), 400)
            self.assertTrue(all(at < len(lines) for at in told))
            self.assertEqual(grown(signs, [more[at] for at in told]).standing(), wood.standing())


if __name__ == "__main__":
    unittest.main()
