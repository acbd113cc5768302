"""Points 1 to 4: terms, places, fillings."""

import copy
import unittest

from ruleswood.errors import NoPlace
from ruleswood.terms import all_parts, blanks, filled, is_name, part_at, places, put_at, size
from tests.samples import all_terms, nested

ZERO = ("zero",)
SUM = ("plus", 0, ("neg", 1))
WIDE = ("four", ("a",), 7, ("b", 8), ("c", 7, 9))
SIGNS = [("z", 0, 1), ("s", 1, 1), ("p", 2, 1), ("t", 3, 1), ("q", 4, 1)]
SMALL = all_terms(SIGNS, [0, 1], 5)


def plain_blanks(term):
    if isinstance(term, int):
        return [term]
    return [blank for part in term[1:] for blank in plain_blanks(part)]


def plain_size(term):
    return 1 if isinstance(term, int) else 1 + sum(map(plain_size, term[1:]))


def plain_places(term):
    if isinstance(term, int):
        return [()]
    within = [(k,) + place for k in range(1, len(term)) for place in plain_places(term[k])]
    return within + [()]


def plain_filled(term, filling):
    if isinstance(term, int):
        return filling.get(term, term)
    return (term[0],) + tuple(plain_filled(part, filling) for part in term[1:])


class BlanksTest(unittest.TestCase):
    def test_a_blank_is_its_own(self):
        self.assertEqual(blanks(0), [0])
        self.assertEqual(blanks(999), [999])

    def test_a_name_without_parts_has_none(self):
        self.assertEqual(blanks(ZERO), [])
        self.assertEqual(blanks(("a",)), [])
        self.assertEqual(blanks(("eightlet",)), [])

    def test_from_the_left_not_by_number(self):
        self.assertEqual(blanks(("plus", 5, ("plus", 3, 4))), [5, 3, 4])
        self.assertEqual(blanks(("plus", ("plus", 9, 0), 999)), [9, 0, 999])

    def test_each_once_as_it_first_stands(self):
        self.assertEqual(blanks(WIDE), [7, 8, 9])
        self.assertEqual(blanks(("plus", ("plus", 2, 1), ("plus", 1, 2))), [2, 1])
        self.assertEqual(blanks(("plus", 4, 4)), [4])

    def test_a_sign_of_four_parts(self):
        self.assertEqual(blanks(("four", 3, 2, 1, 0)), [3, 2, 1, 0])

    def test_two_hundred_deep(self):
        self.assertEqual(blanks(nested(200, ZERO)), [])
        self.assertEqual(blanks(nested(199, 7)), [7])

    def test_somewhat_beyond_the_depth(self):
        self.assertEqual(blanks(nested(3000, 7)), [7])

    def test_the_list_is_the_callers_own(self):
        told = blanks(SUM)
        told.append(99)
        told[0] = 98
        self.assertEqual(blanks(SUM), [0, 1])

    def test_all_small_terms(self):
        for term in SMALL:
            self.assertEqual(blanks(term), list(dict.fromkeys(plain_blanks(term))), term)


class SizeTest(unittest.TestCase):
    def test_names_and_blanks_count(self):
        self.assertEqual(size(0), 1)
        self.assertEqual(size(999), 1)
        self.assertEqual(size(ZERO), 1)
        self.assertEqual(size(SUM), 4)
        self.assertEqual(size(WIDE), 8)

    def test_each_blank_counts_as_often_as_it_stands(self):
        self.assertEqual(size(("plus", 4, 4)), 3)

    def test_two_hundred_names(self):
        self.assertEqual(size(nested(199, ZERO)), 200)
        self.assertEqual(size(nested(3000, 0)), 3001)

    def test_all_small_terms(self):
        for term in SMALL:
            self.assertEqual(size(term), plain_size(term), term)


class NameTest(unittest.TestCase):
    def test_names(self):
        for text in ("a", "z", "plus", "eightlet", "zzzzzzzz"):
            self.assertIs(is_name(text), True, text)

    def test_other_texts(self):
        for text in ("", "ninelette", "Plus", "plUs", "a1", "1", "a b", " a", "a\n", "a_b", "\u00e4", "`", "{", "?"):
            self.assertIs(is_name(text), False, text)


class PlacesTest(unittest.TestCase):
    def test_a_blank_and_a_bare_name(self):
        self.assertEqual(places(0), [()])
        self.assertEqual(places(ZERO), [()])

    def test_within_a_part_ahead_of_the_part_and_the_whole_last(self):
        self.assertEqual(places(SUM), [(1,), (2, 1), (2,), ()])
        self.assertEqual(places(WIDE), [(1,), (2,), (3, 1), (3,), (4, 1), (4, 2), (4,), ()])
        self.assertEqual(places(("p", ("p", 0, 1), 2)), [(1, 1), (1, 2), (1,), (2,), ()])

    def test_two_hundred_deep(self):
        self.assertEqual(places(nested(199, 0)), [(1,) * k for k in range(199, -1, -1)])

    def test_the_list_is_the_callers_own(self):
        told = places(SUM)
        told.clear()
        self.assertEqual(places(SUM), [(1,), (2, 1), (2,), ()])

    def test_all_small_terms(self):
        for term in SMALL:
            self.assertEqual(places(term), plain_places(term), term)


class PartAtTest(unittest.TestCase):
    def test_the_whole(self):
        self.assertEqual(part_at(0, ()), 0)
        self.assertEqual(part_at(SUM, ()), SUM)

    def test_the_document_s_place(self):
        # (2, 1): the first part of the second part.
        self.assertEqual(part_at(SUM, (2,)), ("neg", 1))
        self.assertEqual(part_at(SUM, (2, 1)), 1)
        self.assertEqual(part_at(WIDE, (4, 2)), 9)

    def test_two_hundred_deep(self):
        self.assertEqual(part_at(nested(199, ZERO), (1,) * 199), ZERO)

    def test_all_parts_of_small_terms_stand_at_the_places(self):
        for term in SMALL:
            there = [part_at(term, place) for place in sorted(places(term))]
            self.assertEqual(there, all_parts(term), term)


BAD_PLACES = [
    (SUM, (0,)), (SUM, (-1,)), (SUM, (-2,)), (SUM, (3,)), (SUM, (99,)),
    (SUM, (2, 0)), (SUM, (2, -1)), (SUM, (2, 2)), (SUM, (0, 1)), (SUM, (3, 1)),
    (SUM, (1, 1)), (SUM, (1, 0)), (SUM, (2, 1, 1)), (SUM, (2, 1, -1)),
    (0, (1,)), (0, (0,)), (0, (-1,)), (999, (1, 1)),
    (ZERO, (1,)), (ZERO, (0,)), (ZERO, (-1,)),
    (("four", 0, 1, 2, 3), (5,)), (nested(199, ZERO), (1,) * 200), (nested(199, 0), (1,) * 200),
]


class NoPlaceTest(unittest.TestCase):
    def test_part_at(self):
        for term, place in BAD_PLACES:
            with self.subTest(place=place), self.assertRaises(NoPlace):
                part_at(term, place)

    def test_put_at(self):
        for term, place in BAD_PLACES:
            with self.subTest(place=place), self.assertRaises(NoPlace):
                put_at(term, place, ZERO)


class PutAtTest(unittest.TestCase):
    def test_the_whole(self):
        self.assertEqual(put_at(SUM, (), ZERO), ZERO)
        self.assertEqual(put_at(3, (), SUM), SUM)

    def test_a_part(self):
        self.assertEqual(put_at(SUM, (1,), ZERO), ("plus", ZERO, ("neg", 1)))
        self.assertEqual(put_at(SUM, (2,), 5), ("plus", 0, 5))
        self.assertEqual(put_at(SUM, (2, 1), SUM), ("plus", 0, ("neg", SUM)))

    def test_each_of_four_parts(self):
        self.assertEqual(put_at(WIDE, (1,), 0), ("four", 0, 7, ("b", 8), ("c", 7, 9)))
        self.assertEqual(put_at(WIDE, (2,), 0), ("four", ("a",), 0, ("b", 8), ("c", 7, 9)))
        self.assertEqual(put_at(WIDE, (3,), 0), ("four", ("a",), 7, 0, ("c", 7, 9)))
        self.assertEqual(put_at(WIDE, (4,), 0), ("four", ("a",), 7, ("b", 8), 0))

    def test_two_hundred_deep(self):
        self.assertEqual(put_at(nested(199, ZERO), (1,) * 199, 4), nested(199, 4))

    def test_what_is_there_put_there_changes_nothing(self):
        for term in SMALL:
            for place in places(term):
                self.assertEqual(put_at(term, place, part_at(term, place)), term)

    def test_only_the_place_changes(self):
        new = ("new", 3)
        for term in SMALL:
            for place in places(term):
                changed = put_at(term, place, new)
                self.assertEqual(part_at(changed, place), new)
                for other in places(term):
                    apart = other[:len(place)] != place and place[:len(other)] != other
                    if apart:
                        self.assertEqual(part_at(changed, other), part_at(term, other))


class FilledTest(unittest.TestCase):
    def test_a_blank_that_the_filling_names(self):
        self.assertEqual(filled(0, {0: ZERO}), ZERO)
        self.assertEqual(filled(SUM, {0: ZERO, 1: SUM}), ("plus", ZERO, ("neg", SUM)))

    def test_all_at_once(self):
        self.assertEqual(filled(("plus", 0, 1), {0: 1, 1: 0}), ("plus", 1, 0))
        self.assertEqual(filled(SUM, {0: SUM, 1: 0}), ("plus", SUM, ("neg", 0)))
        self.assertEqual(filled(0, {0: ("neg", 0)}), ("neg", 0))

    def test_what_the_filling_does_not_name_stays(self):
        self.assertEqual(filled(SUM, {1: ZERO}), ("plus", 0, ("neg", ZERO)))
        self.assertEqual(filled(5, {4: ZERO}), 5)

    def test_a_number_that_the_term_has_not(self):
        self.assertEqual(filled(SUM, {2: ZERO, 999: SUM}), SUM)
        self.assertEqual(filled(ZERO, {0: SUM}), ZERO)

    def test_an_empty_filling(self):
        self.assertEqual(filled(SUM, {}), SUM)
        self.assertEqual(filled(0, {}), 0)

    def test_a_blank_that_stands_often(self):
        self.assertEqual(filled(("four", 7, ("a",), 7, 8), {7: 8, 8: 7}), ("four", 8, ("a",), 8, 7))

    def test_the_dict_stays(self):
        filling = {0: SUM, 1: ZERO, 5: 0}
        before = copy.deepcopy(filling)
        filled(SUM, filling)
        self.assertEqual(filling, before)
        self.assertEqual(list(filling), list(before))

    def test_two_hundred_deep(self):
        self.assertEqual(filled(nested(199, 3), {3: ZERO}), nested(199, ZERO))
        self.assertEqual(filled(nested(100, 3), {3: nested(99, 3)}), nested(199, 3))

    def test_all_small_terms(self):
        for filling in ({}, {0: 1, 1: 0}, {0: SUM}, {1: ("p", 1, 0), 0: ZERO}):
            for term in SMALL:
                self.assertEqual(filled(term, filling), plain_filled(term, filling), term)


if __name__ == "__main__":
    unittest.main()
