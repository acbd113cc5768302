"""Point 1 over the whole program, and terms as deep as can be through all functions and methods."""

import copy
import pathlib
import subprocess
import sys
import unittest

from ruleswood.entries import Entry
from ruleswood.errors import BadOrder, BadText, NoPlace, NoTerm, TooHeavy, TooLong, WoodError
from ruleswood.fitting import fitted, met
from ruleswood.growing import Wood
from ruleswood.meetings import meetings
from ruleswood.order import Order
from ruleswood.sparing import spared
from ruleswood.steps import step_fits, turned, walked, worn
from ruleswood.terms import blanks, filled, part_at, places, put_at, size
from ruleswood.texts import read, read_pair, shown, shown_pair
from tests.samples import nested
from tests.woods import DONE, NOT_DONE, WoodCase, lines_of, read_pairs, sown

ROOT = str(pathlib.Path(__file__).resolve().parent.parent)
A, B = ("a",), ("b",)
SIGNS = [("a", 0, 1), ("b", 0, 1), ("t", 1, 1), ("s", 1, 1)]
DEEP, OPEN, OTHER = nested(199, A), nested(199, 0), nested(199, A, "t")
PLACE = (1,) * 199


class DeepTest(WoodCase):
    """Terms of 200 names and blanks, one sign of one part round the other."""

    def test_terms(self):
        self.assertEqual((size(DEEP), size(OPEN)), (200, 200))
        self.assertEqual((blanks(DEEP), blanks(OPEN)), ([], [0]))
        self.assertEqual(places(DEEP), [(1,) * many for many in range(199, -1, -1)])
        self.assertEqual(part_at(DEEP, PLACE), A)
        self.assertEqual(put_at(DEEP, PLACE, 0), OPEN)
        self.assertEqual(filled(OPEN, {0: A}), DEEP)

    def test_order(self):
        order = Order(SIGNS)
        self.assertTrue(order.fits(DEEP))
        self.assertFalse(order.fits(nested(199, 1000)))
        self.assertEqual(order.weight(DEEP), 200)
        self.assertTrue(order.greater(DEEP, OTHER))
        self.assertTrue(order.greater(nested(199, B), DEEP))
        self.assertEqual(order.told(DEEP, OPEN), "apart")

    def test_texts(self):
        # No more than sixty brackets can be read; they are written all the same.
        self.assertEqual(shown(DEEP), "s(" * 199 + "a" + ")" * 199)
        self.assertEqual(shown_pair(DEEP, A), shown(DEEP) + " = a")
        self.assertEqual(read(shown(nested(60, 0))), nested(60, 0))
        self.assertRaises(BadText, read, shown(DEEP))
        self.assertRaises(BadText, read_pair, shown_pair(A, DEEP))

    def test_fitting(self):
        self.assertEqual(fitted(OPEN, DEEP), {0: A})
        self.assertIsNone(fitted(DEEP, OPEN))
        self.assertEqual(met(OPEN, DEEP, 1), {0: A})
        self.assertRaises(TooHeavy, met, 1, DEEP, 100)

    def test_meetings(self):
        rule, other = Entry(0, DEEP, A, []), Entry(1, nested(199, 0), 0, [])
        self.assertRaises(TooHeavy, meetings, rule, other, 100)
        self.assertEqual(meetings(rule, other, 200), [(DEEP, (), A, A)])
        self.assertEqual(meetings(rule, rule, 100), [])

    def test_steps(self):
        self.assertIs(step_fits(A, B, DEEP, PLACE, nested(199, B)), True)
        self.assertIs(step_fits(DEEP, A, DEEP, (), A), True)
        self.assertIs(step_fits(("p", 0, 0), 0, ("p", nested(98, A), nested(98, A)), (), nested(98, A)), True)
        self.assertIs(step_fits(("p", 0, 0), 0, ("p", nested(98, A), nested(98, B)), (), nested(98, A)), False)
        rules = [Entry(0, ("s", 0), ("t", 0), [])]
        chain = worn(DEEP, rules, 199)
        self.assertEqual(walked(rules, DEEP, chain), OTHER)
        self.assertEqual(walked(rules, OTHER, turned(DEEP, chain)), DEEP)
        self.assertRaises(TooLong, worn, DEEP, rules, 198)

    def test_woods(self):
        order, pairs = Order(SIGNS), [(OPEN, 0), (OTHER, DEEP), (nested(199, 0, "t"), 0), (nested(198, A), A)]
        wood = Wood(order, pairs)
        for _ in range(12):
            wood.grow(1)
            self.assert_sound(wood, order, pairs)
        self.assertEqual(wood.state, "enough")
        self.assert_told(wood, OTHER, DEEP, "alike")
        self.assert_told(wood, OPEN, 0, "alike")
        self.assert_told(wood, DEEP, nested(100, A, "t"), "open")
        self.assertRaises(NoTerm, wood.told, DEEP, nested(199, ("c",)), 400)

    def test_a_wood_that_is_done(self):
        order, pairs = Order(SIGNS), [read_pair("s(?0) = t(?0)"), (DEEP, OTHER), (nested(199, A), nested(197, A))]
        wood = Wood(order, pairs)
        self.assertEqual(wood.grow(400), "done")
        self.assertEqual(wood.standing(), [(("s", 0), ("t", 0)), (nested(199, A, "t"), nested(197, A, "t"))])
        self.assert_sound(wood, order, pairs)
        self.assert_told(wood, DEEP, nested(197, A, "t"), "alike")
        self.assert_told(wood, DEEP, nested(196, A, "t"), "unlike")

    def test_sparing(self):
        self.assertEqual(spared(Order(SIGNS), [(DEEP, OTHER), (OTHER, DEEP), (OPEN, 0)], 400), [0, 2])
        self.assertEqual(spared(Order(SIGNS), [(OPEN, OPEN)], 0), [])


class HandedTest(unittest.TestCase):
    def test_nothing_that_is_handed_in_is_changed(self):
        signs, lines = DONE["same"]
        handed = {
            "signs": list(signs), "pairs": read_pairs(lines), "rules": [Entry(0, ("f", 0), 0, [(0, (), True, 0)])],
            "chain": [(0, (), True, 0)], "term": ("f", ("f", 0)), "filling": {0: A},
        }
        order = Order(handed["signs"])
        before = copy.deepcopy({key: vars(what[0]) if key == "rules" else what for key, what in handed.items()})
        wood = Wood(order, handed["pairs"])
        order_before = copy.deepcopy(vars(order))
        wood.grow(400)
        wood.told(("g", 0), A, 400)
        spared(order, handed["pairs"], 400)
        filled(handed["term"], handed["filling"])
        worn(handed["term"], handed["rules"], 400)
        meetings(handed["rules"][0], handed["rules"][0], 100)
        walked(handed["rules"], ("f", 0), handed["chain"])
        turned(("f", 0), handed["chain"])
        after = {key: vars(what[0]) if key == "rules" else what for key, what in handed.items()}
        self.assertEqual(after, before)
        self.assertEqual(vars(order), order_before)

    def test_what_becomes_of_a_handed_list_changes_nothing(self):
        chain = [(0, (), True, A)]
        rules = [Entry(0, B, A, chain)]
        told = worn(("s", B), rules, 1)
        chain.clear()
        rules.clear()
        self.assertEqual(told, [(0, (1,), True, ("s", A))])
        pairs = read_pairs(["b = a", "t(a) = a"])
        kept = spared(Order(SIGNS), pairs, 400)
        pairs.clear()
        self.assertEqual(kept, [0, 1])


class SameEachTimeTest(unittest.TestCase):
    def test_twice_the_same(self):
        for signs, lines in list(DONE.values()) + list(NOT_DONE.values()):
            one, other = sown(signs, lines), sown(signs, lines)
            one.grow(40)
            other.grow(40)
            self.assertEqual([vars(rule) for rule in one.book], [vars(rule) for rule in other.book])
            self.assertEqual((one.state, one.odds), (other.state, other.odds))
            self.assertEqual(lines_of(one.rules), lines_of(other.rules))

    def test_in_another_run_of_python(self):
        code = ("from tests.woods import DONE, lines_of, sown\n"
                "for signs, lines in DONE.values():\n"
                "    wood = sown(signs, lines)\n"
                "    print(wood.grow(400), lines_of(wood.book), [one.chain for one in wood.book])\n")
        told = [subprocess.run([sys.executable, "-c", code], capture_output=True, text=True, check=True,
                               env={"PYTHONHASHSEED": seed, "PYTHONPATH": ROOT, "PYTHONDONTWRITEBYTECODE": "1"}).stdout
                for seed in ("1", "2")]
        self.assertEqual(told[0], told[1])
        self.assertEqual(len(told[0].split("\n")), len(DONE) + 1)


class TextsTest(unittest.TestCase):
    def test_texts_are_ascii(self):
        for signs, lines in DONE.values():
            wood = sown(signs, lines)
            self.assertTrue(wood.grow(400).isascii())
            self.assertTrue(all(line.isascii() for line in lines_of(wood.book)))

    def test_refusals(self):
        wood = sown(*DONE["sums"])
        wood.grow(400)
        for refusal, wanted in (
            (lambda: Wood(Order(SIGNS), [(("\u00e9",), A)]), NoTerm),
            (lambda: wood.told(("\u00e9",), 0, 400), NoTerm),
            (lambda: wood.told(read("plus(zero,zero)"), 0, 0), TooLong),
            (lambda: spared(Order(SIGNS), [(A, ("\u00e9",))], 400), NoTerm),
            (lambda: worn(A, [Entry(0, A, A, [])], 400), TooLong),
            (lambda: meetings(Entry(0, A, B, []), Entry(1, A, B, []), 0), TooHeavy),
            (lambda: part_at(A, (1,)), NoPlace),
            (lambda: Order([]), BadOrder),
            (lambda: read("\u00e9"), BadText),
        ):
            with self.assertRaises(wanted) as caught:
                refusal()
            self.assertIsInstance(caught.exception, WoodError)
            self.assertIsInstance(caught.exception, ValueError)
            self.assertEqual(wanted.__bases__, (WoodError,))
            self.assertTrue(str(caught.exception).isascii())


if __name__ == "__main__":
    unittest.main()
