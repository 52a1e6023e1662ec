"""whatIf and unite."""

import unittest

from tests.support import FEMININE, HIGH_DAY, MASCULINE, NEUTER, TENTH_DAYS, WRONG_DAYS
from tests.support import advance, after, asked, bar, bars_of, genus, home, lift, place, replaced, revive, sink, species
from tests.support import status, told, unite, what_if, work

BLACK = ("niger", "nigra", "nigrum")
FIXED = ("nigra", "nigra", "nigra")
DARK = ("ater", "atra", "atrum")

# Black 21, 22, 23 of the days 10, 20, 30 with a first genus each; 24 of day 10 is nigra in all genders.
KEPT = TENTH_DAYS + [
    genus(1, gender=MASCULINE, t="Aus"), genus(2, gender=FEMININE, t="Bea"), genus(3, gender=NEUTER, t="Cium"),
    genus(4, gender=FEMININE, t="Dea"), genus(9, work=8, gender=FEMININE, t="Nova"),
    species(21, work=1, first_genus=1, forms=BLACK), species(22, work=2, first_genus=2, forms=BLACK),
    species(23, work=3, first_genus=3, forms=BLACK), species(24, work=1, first_genus=4, forms=FIXED)]


def if_moved(acts, *asked_for):
    return [tuple(answer) for answer in asked(KEPT + list(acts), *[what_if(*three) for three in asked_for])]


class WhatIfTest(unittest.TestCase):

    def test_nothing_is_moved(self):
        self.assertEqual(if_moved([], (30, 22, 1), (30, 21, 2), (30, 23, 1), (30, 23, 2)),
                         [(4, 21), (0, 0), (4, 21), (4, 22)])
        given = asked(KEPT, home(30, 22), what_if(30, 22, 1), home(30, 22), bar(30, 22))
        self.assertEqual(given, [[2, 2], [4, 21], [2, 2], [0, 0]])

    def test_its_own_home(self):
        self.assertEqual(if_moved([], (30, 21, 1), (30, 22, 2)), [(0, 0), (0, 0)])
        self.assertEqual(if_moved([place(1, 3, 22, 1)], (30, 22, 1), (30, 22, 2)), [(4, 21), (0, 0)])

    def test_the_head_of_g_not_g(self):
        acts = [sink(1, 3, 3, 1)]
        self.assertEqual(if_moved(acts, (29, 22, 3), (30, 22, 3), (30, 22, 1)), [(0, 0), (4, 21), (4, 21)])
        acts = [sink(1, 3, 1, 3)]
        self.assertEqual(if_moved(acts, (30, 22, 1), (30, 22, 3)), [(4, 21), (4, 21)])

    def test_a_head_that_is_not_out(self):
        acts = [sink(1, 3, 1, 9)]
        self.assertEqual(if_moved(acts, (30, 22, 1)), [(4, 21)])
        self.assertEqual(after(KEPT + acts, what_if(30, 22, 9), what_if(80, 22, 9)), [[-6], [0, 4, 21]])

    def test_alike_in_the_gender_of_that_home(self):
        # 24 is alike to the black ones in the feminine alone.
        acts = [place(1, 3, 24, 2), place(2, 4, 24, 3), place(3, 5, 24, 1), place(4, 5, 21, 4)]
        self.assertEqual(if_moved(acts, (30, 23, 2), (40, 22, 3), (50, 22, 1)), [(4, 24), (0, 0), (0, 0)])
        self.assertEqual(if_moved([], (30, 22, 4), (30, 21, 4)), [(4, 24), (0, 0)])

    def test_of_several_the_one_before_all_the_others(self):
        acts = [place(1, 3, 22, 1)]
        self.assertEqual(if_moved(acts, (30, 23, 1)), [(4, 21)])
        self.assertEqual(if_moved(acts + [advance(2, 4, 22, 0)], (30, 23, 1), (40, 23, 1)), [(4, 21), (4, 22)])

    def test_only_names_that_count_bar(self):
        acts = [status(1, 4, 21, 1), status(2, 5, 21, 2)]
        self.assertEqual(if_moved(acts, (30, 22, 1), (40, 22, 1), (50, 22, 1)), [(4, 21), (4, 21), (0, 0)])
        acts = [advance(1, 1, 23, 0)]
        self.assertEqual(if_moved(acts, (29, 22, 3), (30, 22, 3)), [(0, 0), (4, 23)])

    def test_the_status_of_the_one_asked_about_does_not_matter(self):
        for x in (0, 1, 2):
            self.assertEqual(if_moved([status(1, 4, 22, x)], (40, 22, 1)), [(4, 21)])

    def test_kind_2_as_it_is(self):
        kept = KEPT + [species(25, work=4, first_genus=1, forms=BLACK)]
        given = asked(kept, *[what_if(40, 25, g) for g in (1, 2, 3, 4)])
        self.assertEqual(given, [[2, 21]] * 4)

    def test_kind_3_as_it_is(self):
        acts = [place(1, 4, 22, 1), replaced(2, 5, 22, 21), place(3, 6, 22, 2), lift(4, 7, 22)]
        self.assertEqual(if_moved(acts, *[(50, 22, g) for g in (1, 2, 3, 4)]), [(3, 21)] * 4)
        self.assertEqual(if_moved(acts, *[(60, 22, g) for g in (1, 2, 3, 4)]), [(3, 21)] * 4)
        self.assertEqual(if_moved(acts, *[(70, 22, g) for g in (1, 2, 3, 4)]), [(4, 21), (0, 0), (0, 0), (4, 24)])

    def test_a_replacement_of_the_day_is_judged_by_the_home_that_it_has(self):
        # 22 isn't with 21 on the day of the replacement: moved there it is barred by kind 4 only.
        self.assertEqual(if_moved([replaced(1, 4, 22, 21)], (40, 22, 1)), [(4, 21)])
        acts = [place(1, 4, 22, 1), replaced(2, 4, 22, 21)]
        self.assertEqual(if_moved(acts, (40, 22, 3)), [(3, 21)])

    def test_the_others_stay_where_they_are(self):
        # 22 and 23 both lie in 2; if 22 were moved alone, 23 wouldn't come along.
        acts = [place(1, 3, 23, 2)]
        self.assertEqual(if_moved(acts, (30, 22, 3), (30, 23, 3), (30, 23, 2)), [(0, 0), (0, 0), (4, 22)])

    def test_a_must_be_a_species_name_and_g_a_genus_name_both_out(self):
        given = after(KEPT, what_if(30, 1, 2), what_if(30, 21, 22), what_if(30, 1, 21), what_if(30, 99, 1),
                      what_if(30, 21, 99), what_if(29, 23, 1), what_if(79, 21, 9), what_if(9, 21, 1),
                      what_if(30, 0, 0), what_if(30, 21, 0), what_if(30, 21, 21), what_if(30, 1, 1))
        self.assertEqual(given, [[-6]] * 12)
        self.assertEqual(after(KEPT, what_if(30, 23, 1), what_if(80, 21, 9)), [[0, 4, 21], [0, 0, 0]])

    def test_a_day_out_of_range_is_refused_before_all_else(self):
        for d in WRONG_DAYS:
            given = after(KEPT, what_if(d, 21, 1), what_if(d, 99, 1), what_if(d, 1, 21), what_if(d, 21, 99))
            self.assertEqual(given, [[-9]] * 4)


def if_united(acts, *asked_for, kept=KEPT):
    """Pairs of a name and of what would bar it."""
    given = asked(kept + list(acts), *[unite(*three) for three in asked_for])
    return [list(zip(answer[::2], answer[1::2], strict=True)) for answer in given]


class UniteTest(unittest.TestCase):

    def test_names_that_would_be_barred(self):
        self.assertEqual(if_united([], (30, 1, 2), (30, 2, 1), (30, 2, 3), (30, 3, 2)),
                         [[(22, 21)], [(22, 21)], [(23, 22)], [(23, 22)]])

    def test_nothing_is_done(self):
        given = asked(KEPT, told(), unite(30, 2, 1), home(30, 2), bar(30, 22), told())
        self.assertEqual(given[1:4], [[22, 21], [2, 2], [0, 0]])
        self.assertEqual(given[0], given[4])

    def test_it_matters_which_is_sunk_into_which(self):
        # Nigra is alike to black in the feminine genus name 4, not in the masculine 1.
        self.assertEqual(if_united([], (30, 1, 4), (30, 4, 1)), [[(24, 21)], []])

    def test_alike_in_the_gender_of_the_new_head(self):
        kept = KEPT + [species(25, work=4, first_genus=4, forms=BLACK)]
        acts = [status(1, 4, 24, 2)]
        self.assertEqual(if_united(acts, (40, 4, 1), (40, 4, 3), kept=kept), [[(25, 21)], [(25, 23)]])
        kept = KEPT + [species(25, work=4, first_genus=1, forms=FIXED)]
        self.assertEqual(if_united([], (40, 2, 1), (40, 1, 2), kept=kept), [[(22, 21)], [(22, 21), (25, 21)]])

    def test_names_that_are_barred_already_are_left_out(self):
        # 22 lies in 1 already, and 23 in 2.
        acts = [place(1, 3, 22, 1), place(2, 3, 23, 2)]
        self.assertEqual(if_united(acts, (30, 2, 1), (30, 1, 2)), [[(23, 21)], [(23, 21)]])
        kept = KEPT + [species(25, work=4, first_genus=2, forms=BLACK)]
        self.assertEqual(if_united([], (40, 2, 1), kept=kept), [[(22, 21)]])
        acts = [place(1, 4, 22, 1), replaced(2, 5, 22, 21), place(3, 6, 22, 2)]
        self.assertEqual(if_united(acts, (60, 2, 1)), [[]])

    def test_what_would_bar_is_the_one_before_all_the_others(self):
        acts = [place(1, 3, 22, 1)]
        self.assertEqual(if_united(acts, (30, 3, 1)), [[(23, 21)]])
        self.assertEqual(if_united(acts + [status(2, 3, 21, 2)], (30, 3, 1)), [[(23, 22)]])

    def test_what_was_sunk_into_a_comes_along(self):
        self.assertEqual(if_united([sink(1, 3, 3, 2)], (30, 2, 1)), [[(22, 21)]])
        self.assertEqual(if_united([sink(1, 3, 3, 4), status(2, 3, 24, 2)], (30, 4, 1)), [[(23, 21)]])

    def test_b_that_is_sunk_itself(self):
        self.assertEqual(if_united([sink(1, 3, 4, 1)], (30, 2, 4)), [[(22, 21)]])
        # The home is 9, which isn't out.
        self.assertEqual(if_united([sink(1, 3, 4, 9)], (30, 2, 4)), [[(22, 24)]])

    def test_a_that_is_sunk_already_is_sunk_anew(self):
        # 3 leaves 2 for 1; 23 was barred by 22 and is left out, so it isn't told.
        self.assertEqual(if_united([sink(1, 3, 3, 2)], (30, 3, 1)), [[]])
        self.assertEqual(if_united([sink(1, 3, 3, 2), status(2, 4, 22, 2)], (40, 3, 1)), [[(23, 21)]])
        self.assertEqual(if_united([sink(1, 3, 3, 1)], (30, 3, 1)), [[]])

    def test_names_that_would_be_free_are_not_told(self):
        self.assertEqual(if_united([sink(1, 3, 2, 1)], (30, 2, 4)), [[]])

    def test_a_ring_does_nothing(self):
        self.assertEqual(if_united([sink(1, 3, 2, 4)], (30, 4, 2)), [[]])
        # 1 lies in 2 through 4.
        acts = [sink(1, 3, 1, 4), sink(2, 3, 4, 2)]
        self.assertEqual(if_united(acts, (30, 2, 1), (30, 2, 4), (30, 4, 1)), [[], [], []])
        # 1 lies in 4: 2 may go into either.
        acts = [sink(1, 3, 1, 4)]
        self.assertEqual(if_united(acts, (30, 4, 1), (30, 2, 1), (30, 2, 4)), [[], [(22, 21)], [(22, 21)]])

    def test_what_a_itself_is_sunk_into_does_not_matter(self):
        # 2 comes to 1 through 4 already. Sunk into 1 itself it stays with 21 all the same.
        acts = [sink(1, 3, 2, 4), sink(2, 3, 4, 1), status(3, 3, 21, 2)]
        self.assertEqual(if_united(acts, (30, 2, 1)), [[]])
        acts = [sink(1, 3, 2, 4), place(2, 3, 23, 1), status(3, 3, 21, 2), status(4, 3, 24, 2)]
        self.assertEqual(if_united(acts, (30, 2, 1)), [[(23, 22)]])

    def test_later_than_all_other_acts_of_that_day(self):
        for key in (1, 1000000000):
            self.assertEqual(if_united([revive(key, 4, 2)], (40, 2, 1)), [[(22, 21)]])
            self.assertEqual(if_united([sink(key, 4, 2, 3)], (40, 2, 1)), [[(22, 21)]])
            # By an act of that day 1 lies in 2 already, so it does nothing.
            self.assertEqual(if_united([sink(key, 4, 1, 2)], (40, 2, 1), (39, 2, 1)), [[], [(22, 21)]])

    def test_acts_of_the_day_after_do_not_count(self):
        kept = KEPT + [work(50, 41)]
        for act in (revive(1, 50, 2), sink(1, 50, 1, 2), sink(1, 50, 2, 3), place(1, 50, 21, 4), status(1, 50, 21, 2),
                    advance(1, 50, 22, 0)):
            self.assertEqual(if_united([act], (40, 2, 1), kept=kept), [[(22, 21)]])

    def test_a_replacement_of_that_day_is_judged_with_it(self):
        # 22 lies with 21 in 1, and 23 is replaced because of 22: by kind 4 it is 21 that would bar it.
        for key in (2, 1000000000):
            acts = [place(1, 3, 22, 1), replaced(key, 4, 23, 22)]
            self.assertEqual(if_united(acts, (39, 3, 1), (40, 3, 1), (41, 3, 1)),
                             [[(23, 21)], [(23, 22)], [(23, 21)]])
        self.assertEqual(if_united(acts + [lift(3, 5, 23)], (40, 3, 1)), [[(23, 22)]])

    def test_a_replacement_of_that_day_that_was_lifted_on_it(self):
        acts = [place(1, 3, 22, 1), replaced(2, 4, 23, 22), lift(3, 4, 23)]
        self.assertEqual(if_united(acts, (40, 3, 1)), [[(23, 21)]])
        acts = [place(1, 3, 22, 1), replaced(3, 4, 23, 22), lift(2, 4, 23)]
        self.assertEqual(if_united(acts, (40, 3, 1)), [[(23, 22)]])

    def test_a_replacement_of_an_earlier_day_is_judged_without_it(self):
        acts = [place(1, 3, 22, 1), replaced(2, 4, 23, 22), replaced(3, 5, 23, 22)]
        self.assertEqual(if_united(acts, (40, 3, 1), (49, 3, 1), (50, 3, 1)), [[(23, 22)], [(23, 21)], [(23, 22)]])

    def test_a_replacement_of_that_day_that_is_not_early(self):
        kept = KEPT + [work(50, 95327), work(51, 95328)]
        acts = [place(1, 3, 22, 1), replaced(2, 51, 23, 22)]
        self.assertEqual(if_united(acts, (95328, 3, 1), kept=kept), [[(23, 21)]])
        acts = [place(1, 3, 22, 1), replaced(2, 50, 23, 22)]
        self.assertEqual(if_united(acts, (95327, 3, 1), (95328, 3, 1), kept=kept), [[(23, 22)], [(23, 21)]])

    def test_names_that_are_not_out(self):
        acts = [advance(1, 1, 23, 0)]
        self.assertEqual(if_united(acts, (29, 3, 2), (30, 3, 2)), [[], [(22, 23)]])
        self.assertEqual(if_united([], (19, 2, 1), (20, 2, 1)), [[], [(22, 21)]])

    def test_status(self):
        for x in (0, 1, 2):
            self.assertEqual(if_united([status(1, 4, 22, x)], (40, 2, 1)), [[(22, 21)]])
            self.assertEqual(if_united([status(1, 4, 21, x)], (40, 2, 1)), [[(22, 21)] if x < 2 else []])

    def test_genus_names_are_not_told(self):
        kept = KEPT + [genus(5, work=2, t="Aus")]
        self.assertEqual(if_united([], (30, 5, 1), (30, 1, 5), kept=kept), [[], []])


class UniteOrderTest(unittest.TestCase):

    # In 1 there are a black, a dark and a red name, in 2 the same, later; their keys tell nothing of their order.
    RED = ("ruber", "rubra", "rubrum")
    KEPT = TENTH_DAYS + [
        genus(1), genus(2), species(31, work=1, page=3, first_genus=1, forms=BLACK),
        species(32, work=1, page=2, first_genus=1, forms=DARK), species(33, work=1, page=1, first_genus=1, forms=RED),
        species(53, work=2, page=1, first_genus=2, forms=BLACK), species(52, work=3, page=1, first_genus=2, forms=DARK),
        species(51, work=2, page=2, first_genus=2, forms=RED)]

    def test_each_before_the_next(self):
        self.assertEqual(if_united([], (30, 1, 2), (30, 2, 1), kept=self.KEPT),
                         [[(53, 31), (51, 33), (52, 32)]] * 2)

    def test_by_the_precedence_of_the_day(self):
        acts = [advance(1, 4, 52, 15), advance(2, 5, 53, HIGH_DAY), advance(3, 6, 51, 0)]
        self.assertEqual(if_united(acts, (40, 2, 1), (50, 2, 1), (60, 2, 1), kept=self.KEPT),
                         [[(52, 32), (53, 31), (51, 33)], [(52, 32), (51, 33), (53, 31)],
                          [(33, 51), (52, 32), (53, 31)]])

    def test_the_same_as_if_it_were_done(self):
        given = if_united([], (40, 2, 1), kept=self.KEPT)[0]
        for name, barring in given:
            self.assertEqual(bars_of(self.KEPT + [sink(1, 4, 2, 1)], name, (40,)), [(4, barring)])


class RefusedUniteTest(unittest.TestCase):

    def test_a_and_b_must_be_genus_names_that_are_out(self):
        given = after(KEPT, unite(30, 21, 1), unite(30, 1, 21), unite(30, 99, 1), unite(30, 1, 99), unite(79, 9, 1),
                      unite(79, 1, 9), unite(9, 1, 2), unite(30, 0, 1), unite(30, 1, 0))
        self.assertEqual(given, [[-6]] * 9)
        self.assertEqual(after(KEPT, unite(80, 9, 1), unite(80, 1, 9)), [[0], [0]])

    def test_a_and_b_the_same(self):
        self.assertEqual(after(KEPT, unite(30, 1, 1), unite(80, 9, 9)), [[-10], [-10]])

    def test_no_genus_names_are_refused_ahead_of_the_same(self):
        given = after(KEPT, unite(30, 21, 21), unite(30, 99, 99), unite(79, 9, 9), unite(30, 0, 0))
        self.assertEqual(given, [[-6]] * 4)

    def test_a_day_out_of_range_is_refused_before_all_else(self):
        for d in WRONG_DAYS:
            given = after(KEPT, unite(d, 1, 2), unite(d, 1, 1), unite(d, 99, 1), unite(d, 21, 21))
            self.assertEqual(given, [[-9]] * 4)

    def test_with_80_acts(self):
        acts = [revive(key, 4, 2) for key in range(1, 81)]
        self.assertEqual(if_united(acts, (40, 2, 1)), [[(22, 21)]])


if __name__ == "__main__":
    unittest.main()
