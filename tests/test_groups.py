"""group and homonyms."""

import unittest

from tests.support import FEMININE, HIGH_DAY, MASCULINE, NEUTER, TENTH_DAYS
from tests.support import advance, after, asked, genus, group, homonyms, place, revive, sink, species, status

BLACK = ("niger", "nigra", "nigrum")
DARK = ("ater", "atra", "atrum")
FIXED = ("nigra", "nigra", "nigra")


class GroupTest(unittest.TestCase):

    # Species names 21 and 22 in genus name 1, 23 in 2; 24 comes out on day 40 in 1.
    KEPT = TENTH_DAYS + [
        genus(1), genus(2), genus(3), genus(9, work=5), species(21, page=9, first_genus=1),
        species(22, page=8, first_genus=1), species(23, page=7, first_genus=2), species(24, work=4, first_genus=1)]

    def groups(self, acts, *pairs):
        return asked(self.KEPT + list(acts), *[group(d, g) for d, g in pairs])

    def test_each_before_the_next(self):
        self.assertEqual(self.groups([], (10, 1), (10, 2), (10, 3)), [[22, 21], [23], []])

    def test_names_that_are_not_out(self):
        self.assertEqual(self.groups([], (39, 1), (40, 1)), [[22, 21], [22, 21, 24]])

    def test_those_of_the_head_not_of_the_genus_itself(self):
        acts = [sink(1, 3, 1, 2)]
        self.assertEqual(self.groups(acts, (30, 1), (30, 2)), [[23, 22, 21], [23, 22, 21]])
        acts = [sink(1, 3, 2, 1), sink(2, 4, 1, 3)]
        self.assertEqual(self.groups(acts, (30, 2), (40, 2), (40, 3)),
                         [[23, 22, 21], [23, 22, 21, 24], [23, 22, 21, 24]])

    def test_as_they_are_placed(self):
        acts = [place(1, 3, 21, 3), place(2, 4, 23, 1)]
        self.assertEqual(self.groups(acts, (30, 1), (30, 3), (40, 1), (40, 2)), [[22], [21], [23, 22, 24], []])

    def test_parted_again(self):
        self.assertEqual(self.groups([sink(1, 2, 1, 2), revive(2, 3, 1)], (20, 1), (30, 1), (30, 2)),
                         [[23, 22, 21], [22, 21], [23]])

    def test_a_head_that_is_not_out(self):
        acts = [sink(1, 3, 1, 9), place(2, 3, 23, 9)]
        self.assertEqual(self.groups(acts, (30, 1), (30, 2)), [[23, 22, 21], []])
        self.assertEqual(after(self.KEPT + acts, group(30, 9), group(50, 9)), [[-6], [0, 23, 22, 21, 24]])

    def test_the_order_is_that_of_the_day(self):
        acts = [advance(1, 3, 21, 5), advance(2, 4, 24, 0), advance(3, 5, 22, HIGH_DAY)]
        self.assertEqual(self.groups(acts, (29, 1), (30, 1), (40, 1), (50, 1)),
                         [[22, 21], [21, 22], [24, 21, 22], [24, 21, 22]])

    def test_status_and_bars_do_not_matter(self):
        acts = [status(1, 3, 21, 2), status(2, 3, 22, 1), status(3, 3, 1, 2)]
        self.assertEqual(self.groups(acts, (40, 1)), [[22, 21, 24]])

    def test_a_species_name_is_refused(self):
        given = after(self.KEPT, group(10, 21), group(30, 24), group(40, 24), group(10, 99), group(-1, 21))
        self.assertEqual(given, [[-6], [-6], [-6], [-6], [-9]])


class GenusHomonymsTest(unittest.TestCase):

    KEPT = TENTH_DAYS + [
        genus(1, page=9, gender=MASCULINE, t="Aus"), genus(2, page=8, gender=FEMININE, t="Aus"),
        genus(3, page=1, t="Aux"), genus(4, page=1, t="Ausa"), genus(5, work=4, page=1, t="Aus"),
        species(21, first_genus=1, forms=("aus", "aus", "aus"))]

    def found(self, acts, *pairs):
        return asked(self.KEPT + list(acts), *[homonyms(d, a) for d, a in pairs])

    def test_those_of_the_same_text_itself_among_them(self):
        self.assertEqual(self.found([], (10, 1), (10, 2), (10, 3), (10, 4)), [[2, 1], [2, 1], [3], [4]])

    def test_names_that_are_not_out(self):
        self.assertEqual(self.found([], (39, 1), (40, 1), (40, 5)), [[2, 1], [2, 1, 5], [2, 1, 5]])

    def test_status_does_not_matter(self):
        acts = [status(1, 3, 1, 2), status(2, 3, 2, 1), status(3, 4, 5, 2)]
        self.assertEqual(self.found(acts, (30, 1), (30, 2), (40, 5)), [[2, 1], [2, 1], [2, 1, 5]])

    def test_sunk_or_not_does_not_matter(self):
        self.assertEqual(self.found([sink(1, 3, 1, 2), sink(2, 3, 3, 1)], (30, 1), (30, 3)), [[2, 1], [3]])

    def test_the_order_is_that_of_the_day(self):
        acts = [advance(1, 3, 1, 0), advance(2, 5, 5, 0), advance(3, 6, 1, 90)]
        self.assertEqual(self.found(acts, (29, 2), (30, 2), (40, 2), (50, 2), (60, 2)),
                         [[2, 1], [1, 2], [1, 2, 5], [1, 5, 2], [5, 2, 1]])


class SpeciesHomonymsTest(unittest.TestCase):

    # 21 and 22 are black and 23 is dark in the masculine 1; 24 is the same text in all genders, in the feminine 2.
    KEPT = TENTH_DAYS + [
        genus(1, gender=MASCULINE, t="Aus"), genus(2, gender=FEMININE, t="Bea"), genus(3, gender=NEUTER, t="Cium"),
        genus(9, work=8, gender=FEMININE, t="Nova"), species(21, page=9, first_genus=1, forms=BLACK),
        species(22, page=8, first_genus=1, forms=BLACK), species(23, page=7, first_genus=1, forms=DARK),
        species(24, page=6, first_genus=2, forms=FIXED), species(25, work=4, first_genus=1, forms=BLACK)]

    def found(self, acts, *pairs):
        return asked(self.KEPT + list(acts), *[homonyms(d, a) for d, a in pairs])

    def test_those_alike_in_the_same_home(self):
        self.assertEqual(self.found([], (10, 21), (10, 22), (10, 23), (10, 24)), [[22, 21], [22, 21], [23], [24]])

    def test_names_that_are_not_out(self):
        self.assertEqual(self.found([], (39, 21), (40, 21), (40, 25)), [[22, 21], [22, 21, 25], [22, 21, 25]])

    def test_alike_in_the_gender_of_the_home(self):
        acts = [sink(1, 3, 1, 2), revive(2, 5, 1), sink(3, 5, 2, 1), revive(4, 6, 2), sink(5, 7, 1, 3),
                sink(6, 7, 2, 3)]
        self.assertEqual(self.found(acts, (30, 24), (30, 21), (30, 23)), [[24, 22, 21], [24, 22, 21], [23]])
        self.assertEqual(self.found(acts, (50, 24), (50, 21)), [[24], [22, 21, 25]])
        self.assertEqual(self.found(acts, (70, 24), (70, 21)), [[24], [22, 21, 25]])

    def test_those_with_another_home_are_left_out(self):
        self.assertEqual(self.found([place(1, 3, 22, 3)], (30, 21), (30, 22)), [[21], [22]])

    def test_a_home_that_is_not_out(self):
        acts = [place(1, 3, 21, 9), place(2, 3, 24, 9)]
        self.assertEqual(self.found(acts, (30, 21), (30, 22)), [[24, 21], [22]])

    def test_status_does_not_matter(self):
        acts = [status(1, 3, 21, 2), status(2, 3, 22, 1)]
        self.assertEqual(self.found(acts, (30, 21), (30, 22)), [[22, 21], [22, 21]])
        self.assertEqual(self.found([status(1, 3, 23, 2)], (30, 23)), [[23]])

    def test_the_order_is_that_of_the_day(self):
        acts = [advance(1, 3, 21, 9), advance(2, 4, 25, 8)]
        self.assertEqual(self.found(acts, (29, 22), (30, 22), (40, 22)), [[22, 21], [21, 22], [25, 21, 22]])


if __name__ == "__main__":
    unittest.main()
