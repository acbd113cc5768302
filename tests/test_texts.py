"""Points 1 and 7: the texts of terms and pairs."""

import itertools
import re
import unittest

from ruleswood.errors import BadText
from ruleswood.texts import read, read_pair, shown, shown_pair
from tests.samples import all_terms, nested

ZERO = ("zero",)
SUM = ("plus", 0, ZERO)
SIGNS = [("z", 0, 1), ("s", 1, 1), ("p", 2, 1), ("t", 3, 1), ("q", 4, 1)]
SMALL = all_terms(SIGNS, [0, 10, 999], 5)

# Each text is that of just this term.
WRITTEN = [
    ("?0", 0), ("?1", 1), ("?9", 9), ("?10", 10), ("?99", 99), ("?100", 100), ("?500", 500), ("?999", 999),
    ("a", ("a",)), ("z", ("z",)), ("zero", ZERO), ("eightlet", ("eightlet",)), ("zzzzzzzz", ("zzzzzzzz",)),
    ("abcdefgh", ("abcdefgh",)), ("ijklmnop", ("ijklmnop",)), ("qrstuvwx", ("qrstuvwx",)), ("yz", ("yz",)),
    ("plus(?0,zero)", SUM),
    ("a(b)", ("a", ("b",))), ("a(?7)", ("a", 7)), ("a(?1,?0)", ("a", 1, 0)), ("a(?0,?0,b)", ("a", 0, 0, ("b",))),
    ("a(?0,b,?10,eightlet)", ("a", 0, ("b",), 10, ("eightlet",))),
    ("a(b(c),d(e,f),g)", ("a", ("b", ("c",)), ("d", ("e",), ("f",)), ("g",))),
    ("a(a(a(a)))", ("a", ("a", ("a", ("a",))))),
    ("a(?0,a(?1,a(?2,b)))", ("a", 0, ("a", 1, ("a", 2, ("b",))))),
    ("a(a(a(b,?2),?1),?0)", ("a", ("a", ("a", ("b",), 2), 1), 0)),
]

NO_BLANK = ["?", "??", "?00", "?01", "?000", "?001", "?010", "?1000", "?9999", "?0000", "?0999", "?-1", "?-0", "?+1",
            "?a", "?1a", "?a1", "?1?", "?1?2", "??1", "1", "0", "999", "?1.0", "?1_0", "?1,", "?1,?2", "?_1", "?0x1",
            "?0(a)", "?0()", "?0(", "?0)", "?1(?2)", "?\u0661", "?\uff11", "?\u00b2", "?1\u0661", "?\u2460"]
NO_NAME = ["", "ninelette", "aaaaaaaaaaaaaaaa", "Plus", "pluS", "pLus", "A", "Z", "a1", "1a", "a0", "a_", "_a", "_",
           "a-b", "a.b", "a'", "a\"", "a?", "a?1", "a\n", "\na", "\t", "a\t", "\u00e4", "stra\u00dfe", "\u03b1",
           "\uff41", "\u00aa", "a\u0301", "`", "{", "a{", "@", "[", "\x00", "a\x00", "\\", "%", "a\r", "a\u2028"]
NO_TERM = ["(", ")", ",", "()", "(a)", "(?0)", "((a))", "a()", "a(", "a(b", "a(?0", "a(b))", "a)", "a(b)))", "a((b)",
           "a((b))", "a(())", "a(b,)", "a(b,", "a(,b)", "a(,", "a(,)", "a(b,,c)", "a(b)c", "a(b)?0", "a(b)?", "a,b",
           "a,", ",a", "a(b)(c)", "a(b)()", "a(b),", "a(b),c", "a(b)(", "a(b(c)", "a(b(c)d)", "a(b?0)", "a(?0b)",
           "a(b;c)", "a[b]", "a{b}", "a(b]", "a(?0(b))", "a(b(c)(d))", "a(b(),c)", "a(b,c()", "a(1)", "a(?)", "a(?01)",
           "a(?1000)", "a(B)", "a(ninelette)", "ninelette(a)", "A(b)", "a=b", "=", "a(b=c)", "a(b,c,d,e,f)",
           "a(?0,?1,?2,?3,?4)", "a(b,c,d,e,f,g)", "a(b(c,d,e,f,g))", "a(b,c,d,e,f(g))", "a(b,c,d,e,)", "a(b,c,d,e,f"]
NOT_WRITTEN = NO_BLANK + NO_NAME + NO_TERM


class Refusing(unittest.TestCase):
    def assert_refused(self, reader, text):
        with self.subTest(text=text), self.assertRaises(BadText) as caught:
            reader(text)
        self.assertTrue(str(caught.exception).isascii())


def bracketed(many, leaf="a"):
    return "s(" * many + leaf + ")" * many


class ShownTest(unittest.TestCase):
    def test_terms(self):
        for text, term in WRITTEN:
            self.assertEqual(shown(term), text)

    def test_two_hundred_names(self):
        self.assertEqual(shown(nested(199, ZERO)), bracketed(199, "zero"))
        self.assertEqual(shown(nested(200, 12)), bracketed(200, "?12"))

    def test_somewhat_beyond_the_depth(self):
        self.assertEqual(shown(nested(3000, 7)), bracketed(3000, "?7"))

    def test_two_hundred_names_to_the_left_and_to_the_right(self):
        left = right = ZERO
        for k in range(66):
            left, right = ("p", left, k), ("p", k, right)
        numbers = [f"?{k}" for k in range(66)]
        self.assertEqual(shown(left), "p(" * 66 + "zero," + "),".join(numbers) + ")")
        self.assertEqual(shown(right), "".join(f"p({text}," for text in numbers[::-1]) + "zero" + ")" * 66)

    def test_texts_are_ascii_and_tell_terms_apart(self):
        texts = [shown(term) for term in SMALL]
        self.assertTrue(all(text.isascii() for text in texts))
        self.assertEqual(len(set(texts)), len(set(SMALL)))


class ReadTest(Refusing):
    def test_terms(self):
        for text, term in WRITTEN:
            self.assertEqual(read(text), term)

    def test_a_blank_is_a_number_and_a_name_begins_a_tuple(self):
        self.assertIs(type(read("?0")), int)
        self.assertIs(type(read("a(b,?1)")), tuple)
        self.assertIs(type(read("a(b,?1)")[1]), tuple)
        self.assertIs(type(read("a(b,?1)")[2]), int)

    def test_what_is_written_is_read_to_the_same(self):
        for term in SMALL:
            self.assertEqual(read(shown(term)), term)

    def test_all_blanks(self):
        for blank in range(1000):
            self.assertEqual(read(f"?{blank}"), blank)
            self.assertEqual(shown(read(f"s(?{blank})")), f"s(?{blank})")

    def test_what_is_no_blank(self):
        for text in NO_BLANK:
            self.assert_refused(read, text)

    def test_what_is_no_name(self):
        for text in NO_NAME:
            self.assert_refused(read, text)

    def test_what_is_no_term(self):
        for text in NO_TERM:
            self.assert_refused(read, text)

    def test_what_is_refused_is_refused_as_a_part_too(self):
        # Some of these are terms where they stand beside a bracket or a comma, so they are left out.
        for text in NO_BLANK + NO_NAME:
            if not set(text) & set("(),"):
                self.assert_refused(read, f"a({text})")
                self.assert_refused(read, f"a(b,{text},?1)")

    def test_a_blank_sign_anywhere(self):
        for text in ("?10", "zero", "plus(?0,zero)", "a(b(c),?1)"):
            for at in range(len(text) + 1):
                for sign in (" ", "\n", "\t", "  "):
                    self.assert_refused(read, text[:at] + sign + text[at:])

    def test_a_pair_is_no_term(self):
        for text in ("a = b", "?0 = ?0", "a=b"):
            self.assert_refused(read, text)

    def test_sixty_brackets_open_at_once(self):
        self.assertEqual(read(bracketed(60)), nested(60, ("a",)))
        self.assertEqual(read(bracketed(60, "?999")), nested(60, 999))
        self.assertEqual(shown(read(bracketed(60))), bracketed(60))

    def test_sixty_one_brackets_open_at_once(self):
        for leaf in ("a", "?0", "a,a", "a)", ""):
            self.assert_refused(read, bracketed(61, leaf))
        for many in (62, 100, 199, 1000, 100000):
            self.assert_refused(read, bracketed(many))
        self.assert_refused(read, "s(" * 61)

    def test_closed_brackets_are_open_no_more(self):
        branch = bracketed(59)
        self.assertEqual(read(f"q({branch},{branch},{branch},{branch})"), ("q",) + (nested(59, ("a",)),) * 4)
        self.assert_refused(read, f"q({branch},a,{bracketed(60)})")
        row = "a"
        for _ in range(59):
            row = f"p(s(b),{row})"
        self.assertEqual(shown(read(row)), row)
        self.assert_refused(read, f"p(s(b),{row})")

    def test_texts_of_200_names_that_are_not_deep(self):
        term = ZERO
        for _ in range(49):
            term = ("q", ZERO, term, ZERO, 7)
        self.assertEqual(read(shown(term)), term)
        self.assert_refused(read, shown(nested(199, ZERO)))

    def test_all_short_texts(self):
        good = 0
        for many in range(8):
            for signs in itertools.product("?0a(,)", repeat=many):
                text = "".join(signs)
                if plain_end(text, 0) == len(text):
                    self.assertEqual(shown(read(text)), text)
                    good += 1
                else:
                    with self.assertRaises(BadText):
                        read(text)
        self.assertGreater(good, 20)


def plain_end(text, at):
    """Where the term ends that begins there, by the words of point 7; None where none does."""
    blank = re.compile(r"\?(?:0|[1-9][0-9]{0,2})(?![0-9])").match(text, at)
    if blank:
        return blank.end()
    name = re.compile(r"[a-z]{1,8}(?![a-z])").match(text, at)
    if not name:
        return None
    at = name.end()
    if text[at:at + 1] != "(":
        return at
    for _ in range(4):
        at = plain_end(text, at + 1)
        if at is None or text[at:at + 1] not in (",", ")"):
            return None
        if text[at:at + 1] == ")":
            return at + 1
    return None


class PairTest(Refusing):
    def test_shown(self):
        self.assertEqual(shown_pair(SUM, 0), "plus(?0,zero) = ?0")
        self.assertEqual(shown_pair(0, SUM), "?0 = plus(?0,zero)")
        self.assertEqual(shown_pair(ZERO, ZERO), "zero = zero")
        self.assertEqual(shown_pair(nested(200, 0), nested(200, 1)), f"{bracketed(200, '?0')} = {bracketed(200, '?1')}")

    def test_read(self):
        self.assertEqual(read_pair("plus(?0,zero) = ?0"), (SUM, 0))
        self.assertEqual(read_pair("?0 = plus(?0,zero)"), (0, SUM))
        self.assertEqual(read_pair("?999 = ?0"), (999, 0))
        self.assertIs(type(read_pair("a = b")), tuple)

    def test_what_is_written_is_read_to_the_same(self):
        terms = all_terms(SIGNS, [0, 10], 3)
        for left, right in itertools.product(terms, terms):
            self.assertEqual(read_pair(shown_pair(left, right)), (left, right))

    def test_blank_signs_round_the_sign(self):
        for text in ("a=b", "a =b", "a= b", "a  = b", "a =  b", "a  =  b", "a\t=\tb", "a\n= b", "a =\nb", "a = \nb",
                     "a\u00a0=\u00a0b", "?0=?0", "?0 =?0", "?0= ?0", "a   =   b"):
            self.assert_refused(read_pair, text)

    def test_no_sign_or_another_one(self):
        for text in ("", " ", "a", "?0", "a b", "a  b", "ab", "a(b)", "a == b", "a = = b", "a =  = b", "a -> b",
                     "a ~ b", "a , b", "a, b", "a := b", "a != b", "a <= b", "=", " =", "= ", " = ", "=="):
            self.assert_refused(read_pair, text)

    def test_a_side_that_is_missing(self):
        for text in ("a = ", " = a", "a =", "= a", "?0 = ", " = ?0"):
            self.assert_refused(read_pair, text)

    def test_two_pairs_in_a_row(self):
        for text in ("a = b = c", "a = b a = b", "a = b\na = b", "a = b, a = b", "a = b = ", " = a = b", "a = b =c"):
            self.assert_refused(read_pair, text)

    def test_a_blank_sign_or_a_line_feed_round_the_pair(self):
        for text in ("?0 = a(?0)", "a = b"):
            for sign in (" ", "\n", "\t", "\r\n", "  "):
                self.assert_refused(read_pair, sign + text)
                self.assert_refused(read_pair, text + sign)

    def test_a_side_that_is_no_term(self):
        for text in NOT_WRITTEN:
            self.assert_refused(read_pair, f"{text} = a(?0)")
            self.assert_refused(read_pair, f"a(?0) = {text}")
            self.assert_refused(read_pair, f"{text} = {text}")

    def test_a_blank_sign_within_a_side(self):
        for text in ("a (b) = c", "a( b) = c", "c = a(b, d)", "c = a(b )", "? 1 = a", "a b = c"):
            self.assert_refused(read_pair, text)

    def test_a_sign_within_brackets(self):
        for text in ("a(b = c)", "(a = b)", "a(b = c", "a = b)", "(a = b", "a(b = c,d)"):
            self.assert_refused(read_pair, text)

    def test_sixty_and_sixty_one_brackets_on_either_side(self):
        good, bad = bracketed(60), bracketed(61)
        term = nested(60, ("a",))
        self.assertEqual(read_pair(f"{good} = b"), (term, ("b",)))
        self.assertEqual(read_pair(f"b = {good}"), (("b",), term))
        self.assertEqual(read_pair(f"{good} = {good}"), (term, term))
        for text in (f"{bad} = b", f"b = {bad}", f"{bad} = {good}", f"{good} = {bad}"):
            self.assert_refused(read_pair, text)


if __name__ == "__main__":
    unittest.main()
