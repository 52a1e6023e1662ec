"""bar and usable: the kinds 1, 2 and 4, and the order in which kinds are told."""

import unittest

from tests.support import FEMININE, HIGH_DAY, MASCULINE, NEUTER, TENTH_DAYS
from tests.support import advance, after, bar, bars_of, genus, lift, place, replaced, revive, sink, species, status
from tests.support import usable, work

BLACK = ("niger", "nigra", "nigrum")
FIXED = ("nigra", "nigra", "nigra")
DARK = ("ater", "atra", "atrum")


def usable_at(before, a, days):
    return [answer[0] for answer in after(before, *[usable(d, a) for d in days])]


class ExampleTest(unittest.TestCase):
    """The one at the end of the document's words on bars."""

    KEPT = [work(1, 5), work(2, 10), work(3, 20), work(4, 30), genus(11, gender=MASCULINE, t="Aus"),
            genus(12, gender=FEMININE, t="Bus"), species(1, work=2, first_genus=11, forms=BLACK),
            species(2, work=3, first_genus=12, forms=FIXED)]

    def test_nothing_is_barred_at_first(self):
        self.assertEqual(bars_of(self.KEPT, 1, range(10, 40)), [(0, 0)] * 30)
        self.assertEqual(bars_of(self.KEPT, 2, range(20, 40)), [(0, 0)] * 20)

    def test_bus_sunk_into_aus(self):
        kept = self.KEPT + [sink(1, 4, 12, 11)]
        self.assertEqual(bars_of(kept, 1, range(10, 40)), [(0, 0)] * 30)
        self.assertEqual(bars_of(kept, 2, range(20, 40)), [(0, 0)] * 20)
        self.assertEqual(usable_at(kept, 2, range(20, 40)), [1] * 20)

    def test_aus_sunk_into_bus(self):
        kept = self.KEPT + [sink(1, 4, 11, 12)]
        self.assertEqual(bars_of(kept, 1, range(10, 40)), [(0, 0)] * 30)
        self.assertEqual(bars_of(kept, 2, range(20, 40)), [(0, 0)] * 10 + [(4, 1)] * 10)
        self.assertEqual(bars_of(kept, 2, (HIGH_DAY,)), [(4, 1)])
        self.assertEqual(usable_at(kept, 2, range(20, 40)), [1] * 10 + [0] * 10)
        self.assertEqual(usable_at(kept, 1, range(10, 40)), [1] * 30)


class GenusBarTest(unittest.TestCase):

    # 1, 2 and 3 are called Aus, of the days 10, 20 and 30; 4 isn't.
    KEPT = TENTH_DAYS + [genus(1, work=1), genus(2, work=2, gender=FEMININE), genus(3, work=3),
                         genus(4, work=4, t="Bus"), species(21, work=1, first_genus=4, forms=BLACK)]

    def test_the_later_one_is_barred(self):
        self.assertEqual(bars_of(self.KEPT, 1, (10, 30, HIGH_DAY)), [(0, 0)] * 3)
        self.assertEqual(bars_of(self.KEPT, 2, (20, 30, HIGH_DAY)), [(1, 1)] * 3)
        self.assertEqual(bars_of(self.KEPT, 4, (40,)), [(0, 0)])

    def test_of_several_the_one_before_all_the_others(self):
        self.assertEqual(bars_of(self.KEPT, 3, (30,)), [(1, 1)])
        # The same whatever the order in which they were handed in.
        kept = TENTH_DAYS + [genus(3, work=3), genus(2, work=2), genus(1, work=1)]
        self.assertEqual(bars_of(kept, 3, (30,)), [(1, 1)])
        self.assertEqual(bars_of(kept + [advance(1, 4, 2, 5)], 3, (30, 40)), [(1, 1), (1, 2)])

    def test_each_place_of_the_precedence(self):
        pairs = [(genus(7, work=2), genus(5, work=3)), (genus(7, work=3, page=9), genus(5, work=6, page=1)),
                 (genus(7, work=3, page=2), genus(5, work=3, page=3)), (genus(5, work=3), genus(7, work=3))]
        for early, late in pairs:
            with self.subTest(early=early, late=late):
                kept = [work(2, 20), work(3, 30), work(6, 30)]
                for handed_in in ([early, late], [late, early]):
                    self.assertEqual(bars_of(kept + handed_in, late[1], (30,)), [(1, early[1])])
                    self.assertEqual(bars_of(kept + handed_in, early[1], (30,)), [(0, 0)])

    def test_status_of_the_one_that_would_bar(self):
        acts = [status(1, 4, 1, 1), status(2, 5, 1, 2), status(3, 6, 2, 2), status(4, 7, 2, 1), status(5, 8, 1, 0)]
        self.assertEqual(bars_of(self.KEPT + acts, 3, (30, 40, 50, 60, 70, 80)),
                         [(1, 1), (1, 1), (1, 2), (0, 0), (1, 2), (1, 1)])

    def test_status_of_the_one_asked_about(self):
        for x in (0, 1, 2):
            kept = self.KEPT + [status(1, 4, 2, x), status(2, 4, 1, x)]
            self.assertEqual(bars_of(kept, 2, (40,)), [(0, 0) if x == 2 else (1, 1)])
            self.assertEqual(usable_at(kept, 2, (40,)), [0])
            self.assertEqual(usable_at(kept, 1, (39, 40)), [1, 1 if x == 0 else 0])
            self.assertEqual(bars_of(self.KEPT + [status(1, 4, 2, x)], 2, (40,)), [(1, 1)])

    def test_one_that_is_not_out_bars_nobody(self):
        # 3 is put ahead of all from day 10 on, but comes out on day 30.
        kept = self.KEPT + [advance(1, 1, 3, 0)]
        self.assertEqual(bars_of(kept, 1, (10, 29, 30)), [(0, 0), (0, 0), (1, 3)])
        self.assertEqual(bars_of(kept, 2, (20, 29, 30)), [(1, 1), (1, 1), (1, 3)])
        self.assertEqual(bars_of(kept, 3, (30,)), [(0, 0)])

    def test_advance_turns_round_which_is_before(self):
        acts = [advance(1, 5, 2, 9), advance(2, 6, 1, 8), advance(3, 7, 1, HIGH_DAY)]
        self.assertEqual(bars_of(self.KEPT + acts, 1, (49, 50, 60, 70)), [(0, 0), (1, 2), (0, 0), (1, 2)])
        self.assertEqual(bars_of(self.KEPT + acts, 2, (49, 50, 60, 70)), [(1, 1), (0, 0), (1, 1), (0, 0)])
        # Given the same day, their own days tell.
        self.assertEqual(bars_of(self.KEPT + [advance(1, 5, 2, 10)], 2, (50,)), [(1, 1)])

    def test_sunk_or_not_does_not_matter(self):
        self.assertEqual(bars_of(self.KEPT + [sink(1, 3, 1, 4), sink(2, 3, 2, 1)], 2, (30,)), [(1, 1)])

    def test_texts_that_differ_a_little(self):
        for other in ("Au", "Auss", "Aut", "Bus", "Asu"):
            kept = TENTH_DAYS + [genus(1, t=other), genus(2, work=2, t="Aus")]
            self.assertEqual(bars_of(kept, 2, (20,)), [(0, 0)])

    def test_species_names_bar_no_genus_names(self):
        kept = TENTH_DAYS + [genus(9, work=1, t="Aaa"), species(8, work=1, first_genus=9, forms=("aus", "aus", "aus")),
                             genus(1, work=2, t="Aus")]
        self.assertEqual(bars_of(kept, 1, (20,)), [(0, 0)])
        self.assertEqual(bars_of(kept, 8, (20,)), [(0, 0)])


class FirstGenusBarTest(unittest.TestCase):

    # 21, 22 and 23 are black in the masculine genus name 1, of the days 10, 20 and 30; 24 is dark.
    KEPT = TENTH_DAYS + [
        genus(1, gender=MASCULINE, t="Aus"), genus(2, gender=FEMININE, t="Bea"), genus(3, gender=NEUTER, t="Cium"),
        species(21, work=1, forms=BLACK), species(22, work=2, forms=BLACK), species(23, work=3, forms=BLACK),
        species(24, work=1, forms=DARK)]

    def test_the_later_one_is_barred(self):
        self.assertEqual(bars_of(self.KEPT, 21, (10, HIGH_DAY)), [(0, 0)] * 2)
        self.assertEqual(bars_of(self.KEPT, 22, (20, HIGH_DAY)), [(2, 21)] * 2)
        self.assertEqual(bars_of(self.KEPT, 24, (10, HIGH_DAY)), [(0, 0)] * 2)

    def test_of_several_the_one_before_all_the_others(self):
        self.assertEqual(bars_of(self.KEPT, 23, (30,)), [(2, 21)])
        self.assertEqual(bars_of(self.KEPT + [advance(1, 4, 22, 5)], 23, (30, 40)), [(2, 21), (2, 22)])

    def test_it_never_ends_though_the_homes_differ(self):
        acts = [place(1, 4, 22, 2), place(2, 5, 21, 3)]
        self.assertEqual(bars_of(self.KEPT + acts, 22, (30, 40, 50, HIGH_DAY)), [(2, 21)] * 4)

    def test_the_gender_is_that_of_the_first_genus_not_of_the_home(self):
        # 25 and 26 have the feminine form in common, but lie in the masculine genus name 1 first.
        kept = self.KEPT + [species(25, work=1, forms=("ruber", "rufa", "rubrum")),
                            species(26, work=2, forms=("rufus", "rufa", "rufum"))]
        acts = [sink(1, 4, 1, 2)]
        self.assertEqual(bars_of(kept + acts, 26, (39, 40)), [(0, 0), (4, 25)])
        # 27 has but the masculine form in common with 25, and their home is feminine.
        kept += [species(27, work=2, forms=("ruber", "rubra", "robrum"))]
        self.assertEqual(bars_of(kept + acts, 27, (39, 40)), [(2, 25), (2, 25)])

    def test_each_gender(self):
        for gender in (MASCULINE, FEMININE, NEUTER):
            for same in (MASCULINE, FEMININE, NEUTER):
                forms = [BLACK[place_of] if place_of == same else DARK[place_of] for place_of in range(3)]
                kept = TENTH_DAYS + [genus(1, gender=gender), species(21, work=1, forms=BLACK),
                                     species(22, work=2, forms=forms)]
                with self.subTest(gender=gender, same=same):
                    self.assertEqual(bars_of(kept, 22, (20,)), [(2, 21) if gender == same else (0, 0)])

    def test_the_same_text_in_another_gender_is_not_alike(self):
        kept = TENTH_DAYS + [genus(1), species(21, work=1, forms=("nigra", "ab", "cd")),
                             species(22, work=2, forms=("xy", "nigra", "nigra"))]
        self.assertEqual(bars_of(kept, 22, (20,)), [(0, 0)])

    def test_another_first_genus_of_the_same_text(self):
        kept = TENTH_DAYS + [genus(1), genus(2), species(21, work=1, first_genus=1), species(22, work=2, first_genus=2)]
        self.assertEqual(bars_of(kept, 22, (20,)), [(0, 0)])

    def test_status_of_the_one_that_would_bar(self):
        acts = [status(1, 4, 21, 1), status(2, 5, 21, 2), status(3, 6, 22, 2), status(4, 7, 21, 0)]
        self.assertEqual(bars_of(self.KEPT + acts, 23, (30, 40, 50, 60, 70)),
                         [(2, 21), (2, 21), (2, 22), (0, 0), (2, 21)])

    def test_status_of_the_one_asked_about(self):
        for x in (0, 1, 2):
            kept = self.KEPT + [status(1, 4, 22, x), status(2, 4, 24, x)]
            self.assertEqual(bars_of(kept, 22, (40,)), [(2, 21)])
            self.assertEqual(bars_of(kept, 24, (40,)), [(0, 0)])
            self.assertEqual(usable_at(kept, 22, (40,)), [0])
            self.assertEqual(usable_at(kept, 24, (39, 40)), [1, 1 if x == 0 else 0])

    def test_one_that_is_not_out_bars_nobody(self):
        kept = self.KEPT + [advance(1, 1, 23, 0)]
        self.assertEqual(bars_of(kept, 21, (10, 29, 30)), [(0, 0), (0, 0), (2, 23)])
        self.assertEqual(bars_of(kept, 23, (30,)), [(0, 0)])

    def test_advance_turns_round_which_is_before(self):
        acts = [advance(1, 5, 22, 9), advance(2, 6, 21, 0)]
        self.assertEqual(bars_of(self.KEPT + acts, 21, (49, 50, 60)), [(0, 0), (2, 22), (0, 0)])
        self.assertEqual(bars_of(self.KEPT + acts, 22, (49, 50, 60)), [(2, 21), (0, 0), (2, 21)])


class HomeBarTest(unittest.TestCase):

    # Each has a first genus of its own; all but 25 are black.
    KEPT = TENTH_DAYS + [
        genus(1, gender=MASCULINE, t="Aus"), genus(2, gender=FEMININE, t="Bea"), genus(3, gender=NEUTER, t="Cium"),
        genus(4, gender=MASCULINE, t="Dus"), genus(9, work=8, gender=FEMININE, t="Nova"),
        species(21, work=1, first_genus=1, forms=BLACK), species(22, work=2, first_genus=2, forms=BLACK),
        species(23, work=3, first_genus=3, forms=BLACK), species(25, work=1, first_genus=4, forms=FIXED)]

    def test_placed_in_one_genus(self):
        acts = [place(1, 4, 22, 1), place(2, 5, 22, 3)]
        self.assertEqual(bars_of(self.KEPT + acts, 22, (39, 40, 49, 50)), [(0, 0), (4, 21), (4, 21), (0, 0)])
        self.assertEqual(bars_of(self.KEPT + acts, 21, (40, 50)), [(0, 0)] * 2)
        self.assertEqual(bars_of(self.KEPT + acts, 23, (40, 50)), [(0, 0), (4, 22)])

    def test_sunk_and_parted_again_and_sunk_once_more(self):
        acts = [sink(1, 4, 2, 1), revive(2, 5, 2), sink(3, 6, 1, 2)]
        self.assertEqual(bars_of(self.KEPT + acts, 22, (39, 40, 50, 60)), [(0, 0), (4, 21), (0, 0), (4, 21)])

    def test_of_several_the_one_before_all_the_others(self):
        acts = [sink(1, 4, 1, 2), sink(2, 4, 3, 2)]
        self.assertEqual(bars_of(self.KEPT + acts, 23, (40,)), [(4, 21)])
        self.assertEqual(bars_of(self.KEPT + acts + [advance(3, 5, 22, 9)], 23, (40, 50)), [(4, 21), (4, 22)])
        self.assertEqual(bars_of(self.KEPT + acts + [status(3, 5, 21, 2)], 23, (40, 50)), [(4, 21), (4, 22)])

    def test_alike_in_the_gender_of_the_home(self):
        # Black and the fixed nigra are alike in the feminine alone.
        for home, expected in ((1, (0, 0)), (2, (4, 25)), (3, (0, 0)), (9, (4, 25))):
            acts = [place(1, 4, 23, home), place(2, 4, 25, home), place(3, 4, 21, 4), place(4, 4, 22, 4)]
            with self.subTest(home=home):
                self.assertEqual(bars_of(self.KEPT + acts, 23, (40,)), [expected])

    def test_a_head_that_is_not_out(self):
        acts = [sink(1, 4, 1, 9), sink(2, 4, 2, 9), sink(3, 4, 4, 9)]
        self.assertEqual(bars_of(self.KEPT + acts, 22, (39, 40, 80)), [(0, 0), (4, 21), (4, 21)])

    def test_status_of_the_one_that_would_bar(self):
        acts = [sink(1, 4, 2, 1), status(2, 5, 21, 1), status(3, 6, 21, 2), status(4, 7, 21, 0), status(5, 8, 1, 2)]
        self.assertEqual(bars_of(self.KEPT + acts, 22, (40, 50, 60, 70, 80)),
                         [(4, 21), (4, 21), (0, 0), (4, 21), (4, 21)])

    def test_status_of_the_one_asked_about(self):
        for x in (0, 1, 2):
            kept = self.KEPT + [sink(1, 4, 2, 1), status(2, 4, 22, x)]
            self.assertEqual(bars_of(kept, 22, (40,)), [(4, 21)])
            self.assertEqual(usable_at(kept, 22, (39, 40)), [1, 0])

    def test_one_that_is_not_out_bars_nobody(self):
        kept = self.KEPT + [sink(1, 1, 3, 1), advance(2, 1, 23, 0)]
        self.assertEqual(bars_of(kept, 21, (10, 29, 30)), [(0, 0), (0, 0), (4, 23)])

    def test_advance_turns_round_which_is_before(self):
        acts = [sink(1, 4, 2, 1), advance(2, 5, 22, 9), advance(3, 6, 22, 11)]
        self.assertEqual(bars_of(self.KEPT + acts, 22, (40, 50, 60)), [(4, 21), (0, 0), (4, 21)])
        self.assertEqual(bars_of(self.KEPT + acts, 21, (40, 50, 60)), [(0, 0), (4, 22), (0, 0)])

    def test_acts_of_one_day_by_their_keys(self):
        acts = [place(7, 4, 22, 3), place(6, 4, 22, 1)]
        self.assertEqual(bars_of(self.KEPT + acts, 22, (40,)), [(0, 0)])
        acts = [place(6, 4, 22, 3), place(7, 4, 22, 1)]
        self.assertEqual(bars_of(self.KEPT + acts, 22, (40,)), [(4, 21)])

    def test_kind_2_is_told_ahead_of_kind_4(self):
        # 26 lies in 2 first, as 22 does; in the home of all, 21 is before both.
        kept = self.KEPT + [species(26, work=4, first_genus=2, forms=BLACK), sink(1, 5, 2, 1)]
        self.assertEqual(bars_of(kept, 26, (40, 50)), [(2, 22), (2, 22)])
        self.assertEqual(bars_of(kept + [status(2, 6, 22, 2)], 26, (50, 60)), [(2, 22), (4, 21)])


class UsableTest(unittest.TestCase):

    KEPT = TENTH_DAYS + [genus(1), genus(2, work=2), species(21), species(22, work=2, first_genus=2)]

    def test_out_of_status_0_and_not_barred(self):
        self.assertEqual(usable_at(self.KEPT, 1, (10, HIGH_DAY)), [1, 1])
        self.assertEqual(usable_at(self.KEPT, 21, (10, HIGH_DAY)), [1, 1])
        self.assertEqual(usable_at(self.KEPT, 2, (20,)), [0])
        self.assertEqual(usable_at(self.KEPT, 22, (20,)), [1])

    def test_status(self):
        for a in (1, 21):
            acts = [status(1, 3, a, 1), status(2, 4, a, 2), status(3, 5, a, 0)]
            self.assertEqual(usable_at(self.KEPT + acts, a, (29, 30, 40, 50)), [1, 0, 0, 1])

    def test_a_bar_of_each_kind(self):
        self.assertEqual(usable_at(self.KEPT + [status(1, 3, 1, 2)], 2, (29, 30)), [0, 1])
        self.assertEqual(usable_at(self.KEPT + [species(23, work=3)], 23, (30,)), [0])
        acts = [sink(1, 3, 2, 1), replaced(2, 3, 22, 21), revive(3, 4, 2), lift(4, 5, 22)]
        self.assertEqual(bars_of(self.KEPT + acts, 22, (29, 30, 40, 50)), [(0, 0), (3, 21), (3, 21), (0, 0)])
        self.assertEqual(usable_at(self.KEPT + acts, 22, (29, 30, 40, 50)), [1, 0, 0, 1])
        acts = [place(1, 3, 22, 1), place(2, 4, 22, 2)]
        self.assertEqual(usable_at(self.KEPT + acts, 22, (29, 30, 40)), [1, 0, 1])

    def test_names_that_are_not_out_are_refused(self):
        given = after(self.KEPT, usable(9, 1), bar(9, 21), usable(19, 22), bar(19, 2), usable(20, 99), bar(20, 0))
        self.assertEqual(given, [[-6]] * 6)


if __name__ == "__main__":
    unittest.main()
