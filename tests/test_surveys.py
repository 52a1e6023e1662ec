"""barred, first and history."""

import itertools
import unittest

from tests.support import FAR, FEMININE, HIGH_DAY, MASCULINE, NEUTER, TENTH_DAYS, WRONG_DAYS
from tests.support import advance, after, asked, bar, barred, first, genus, history, lift, place, replaced, revive, sink
from tests.support import species, status, usable, work

BLACK = ("niger", "nigra", "nigrum")

# Genus names 1 to 3 and black species names 21 to 23, each in its own genus, of the days 10 to 30.
KEPT = TENTH_DAYS + [
    genus(1, work=1, gender=MASCULINE, t="Aus"), genus(2, work=2, gender=FEMININE, t="Bea"),
    genus(3, work=3, gender=NEUTER, t="Cium"), species(21, work=1, first_genus=1, forms=BLACK),
    species(22, work=2, first_genus=2, forms=BLACK), species(23, work=3, first_genus=3, forms=BLACK)]


def triples(answer):
    return list(zip(answer[::3], answer[1::3], answer[2::3], strict=True))


class BarredTest(unittest.TestCase):

    # On day 40 there are a second Aus (4), a second black name of Aus (24), and 22 and 23 lie in Aus.
    MORE = [genus(4, work=4, page=5, t="Aus"), species(24, work=4, page=3, first_genus=1, forms=BLACK),
            place(41, 4, 22, 1), place(42, 4, 23, 1)]

    def found(self, acts, *days):
        return [triples(answer) for answer in asked(KEPT + list(acts), *[barred(d) for d in days])]

    def test_nothing(self):
        self.assertEqual(self.found([], 0, 10, 30, HIGH_DAY), [[], [], [], []])
        self.assertEqual(after([], barred(0), barred(HIGH_DAY)), [[0], [0]])

    def test_genus_names_and_species_names_in_one_order(self):
        self.assertEqual(self.found(self.MORE, 39, 40),
                         [[], [(22, 4, 21), (23, 4, 21), (24, 2, 21), (4, 1, 1)]])
        self.assertEqual(self.found(self.MORE + [advance(1, 5, 4, 15), advance(2, 5, 23, 40)], 50),
                         [[(4, 1, 1), (22, 4, 21), (23, 4, 21), (24, 2, 21)]])

    def test_the_order_of_the_day_in_any_order_of_handing_in(self):
        for more in itertools.permutations(self.MORE[:2]):
            kept = KEPT + list(more) + self.MORE[2:]
            given = asked(kept, barred(40))
            self.assertEqual(triples(given[0]), [(22, 4, 21), (23, 4, 21), (24, 2, 21), (4, 1, 1)])

    def test_a_bar_of_each_kind(self):
        acts = self.MORE + [replaced(1, 5, 22, 21), place(2, 6, 22, 2)]
        self.assertEqual(self.found(acts, 60), [[(22, 3, 21), (23, 4, 21), (24, 2, 21), (4, 1, 1)]])

    def test_names_of_every_status_are_told(self):
        for x in (0, 1, 2):
            acts = self.MORE + [status(1, 5, 22, x), status(2, 5, 4, x), status(3, 5, 24, x)]
            self.assertEqual(self.found(acts, 50), [[(22, 4, 21), (23, 4, 21), (24, 2, 21), (4, 1, 1)]])

    def test_names_that_are_not_out_are_left_out(self):
        # By their acts of day 10 they would be barred from then on.
        acts = [place(1, 1, 22, 1), place(2, 1, 23, 1)]
        self.assertEqual(self.found(acts, 10, 19, 20, 29, 30),
                         [[], [], [(22, 4, 21)], [(22, 4, 21)], [(22, 4, 21), (23, 4, 21)]])

    def test_a_day_out_of_range(self):
        for d in WRONG_DAYS:
            self.assertEqual(after(KEPT, barred(d)), [[-9]])


class FirstTest(unittest.TestCase):

    def found(self, acts, d, *sets):
        return [answer[0] for answer in after(KEPT + list(acts), *[first(d, keys) for keys in sets])]

    def test_the_one_before_all_others(self):
        self.assertEqual(self.found([], 30, [21, 22, 23], [23, 22, 21], [22, 23], [23], [2, 3], [3, 22]),
                         [21, 21, 22, 23, 2, 22])

    def test_genus_names_and_species_names_are_compared_alike(self):
        # 1 and 21 are of one work and one page: their keys tell.
        self.assertEqual(self.found([], 30, [1, 21], [21, 1], [21, 2], [3, 22], [23, 3, 2, 22, 1, 21]),
                         [1, 1, 21, 22, 1])
        self.assertEqual(self.found([advance(1, 4, 21, 9)], 40, [1, 21], [1]), [21, 1])

    def test_the_order_of_the_day(self):
        acts = [advance(1, 4, 23, 0), advance(2, 5, 22, 0), advance(3, 6, 23, HIGH_DAY)]
        for d, expected in ((39, 21), (40, 23), (50, 22), (60, 22)):
            self.assertEqual(self.found(acts, d, [21, 22, 23]), [expected])
        self.assertEqual(self.found(acts, 60, [23, 21]), [21])

    def test_an_empty_set(self):
        self.assertEqual(self.found([], 30, []), [0])
        self.assertEqual(after([], first(0, [])), [[0]])

    def test_a_key_twice(self):
        self.assertEqual(self.found([], 30, [22, 22], [23, 22, 23, 22], [99, 99]), [22, 22, 0])

    def test_keys_of_no_name_are_passed_over(self):
        self.assertEqual(self.found([], 30, [99], [0], [-1], [FAR, -FAR], [99, 0, -5, 22, FAR]), [0, 0, 0, 0, 22])

    def test_names_that_are_not_out_are_passed_over(self):
        acts = [advance(1, 1, 23, 0)]
        self.assertEqual(self.found(acts, 29, [23], [23, 22]), [0, 22])
        self.assertEqual(self.found(acts, 30, [23], [23, 22]), [23, 23])
        self.assertEqual(self.found([], 9, [1, 21]), [0])

    def test_names_that_are_not_usable_are_passed_over(self):
        for x in (1, 2):
            self.assertEqual(self.found([status(1, 4, 21, x)], 40, [21], [21, 22], [23, 21]), [0, 22, 23])
        acts = [place(1, 4, 22, 1), place(2, 4, 23, 3)]
        self.assertEqual(self.found(acts, 40, [22], [22, 23], [21, 22]), [0, 23, 21])
        acts = [status(1, 4, 21, 2), place(2, 4, 22, 1)]
        self.assertEqual(self.found(acts, 40, [21, 22]), [22])

    def test_what_bars_need_not_be_in_the_set(self):
        kept = KEPT + [genus(4, work=4, t="Aus")]
        given = after(kept, first(40, [4]), first(40, [4, 23]), usable(40, 4))
        self.assertEqual(given, [[0], [23], [0]])

    def test_the_longest_set(self):
        self.assertEqual(self.found([], 30, list(range(-30, 30)), [23] * 60, [99] * 59 + [22]), [1, 23, 22])

    def test_a_day_out_of_range_is_refused_before_all_else(self):
        for d in WRONG_DAYS:
            given = after(KEPT, first(d, []), first(d, [21]), first(d, [99]), usable(30, 21))
            self.assertEqual(given, [[-9], [-9], [-9], [1]])


class HistoryTest(unittest.TestCase):

    def story(self, acts, a, kept=KEPT):
        return triples(asked(kept + list(acts), history(a))[0])

    def test_on_its_own_day_always(self):
        for a, day in ((1, 10), (21, 10), (2, 20), (23, 30)):
            self.assertEqual(self.story([], a), [(day, 0, 0)])
        kept = [work(1, 0), work(2, HIGH_DAY), genus(1), genus(2, work=2)]
        self.assertEqual(asked(kept, history(1), history(2)), [[0, 0, 0], [HIGH_DAY, 1, 1]])

    def test_barred_from_its_own_day_on(self):
        kept = KEPT + [genus(4, work=4, t="Aus"), species(24, work=4, first_genus=1, forms=BLACK)]
        self.assertEqual(self.story([], 4, kept), [(40, 1, 1)])
        self.assertEqual(self.story([], 24, kept), [(40, 2, 21)])

    def test_a_bar_that_ends_and_one_that_comes_again(self):
        acts = [sink(1, 4, 2, 1), revive(2, 6, 2), place(3, 7, 22, 1), status(4, 9, 21, 2)]
        self.assertEqual(self.story(acts, 22), [(20, 0, 0), (40, 4, 21), (60, 0, 0), (70, 4, 21), (90, 0, 0)])
        self.assertEqual(self.story(acts, 21), [(10, 0, 0)])

    def test_a_day_at_which_the_pair_is_the_same_is_not_told(self):
        # It comes to where 21 is in one way after another, and 21 has the status 1 from day 70 on.
        acts = [sink(1, 4, 2, 1), place(2, 5, 22, 1), revive(3, 6, 2), status(4, 7, 21, 1), advance(5, 8, 22, 15)]
        self.assertEqual(self.story(acts, 22), [(20, 0, 0), (40, 4, 21)])

    def test_the_same_name_by_another_kind_and_another_name_by_the_same_kind(self):
        acts = [place(1, 4, 22, 1), replaced(2, 5, 22, 21), lift(3, 6, 22)]
        self.assertEqual(self.story(acts, 22), [(20, 0, 0), (40, 4, 21), (50, 3, 21), (60, 4, 21)])
        acts = [place(1, 4, 22, 1), place(2, 4, 23, 1), status(3, 5, 21, 2), status(4, 6, 21, 1)]
        self.assertEqual(self.story(acts, 23), [(30, 0, 0), (40, 4, 21), (50, 4, 22), (60, 4, 21)])

    def test_a_change_and_back_on_one_day_is_none(self):
        acts = [place(1, 4, 22, 1), place(2, 4, 22, 2)]
        self.assertEqual(self.story(acts, 22), [(20, 0, 0)])
        kept = KEPT + [work(50, 40), work(51, 41)]
        acts = [place(1, 4, 22, 1), place(2, 50, 22, 3), place(3, 51, 22, 1)]
        self.assertEqual(self.story(acts, 22, kept), [(20, 0, 0), (41, 4, 21)])

    def test_one_day_after_another(self):
        kept = KEPT + [work(50, 41), work(51, 42)]
        acts = [place(1, 4, 22, 1), place(2, 50, 22, 2), place(3, 51, 22, 1)]
        self.assertEqual(self.story(acts, 22, kept), [(20, 0, 0), (40, 4, 21), (41, 0, 0), (42, 4, 21)])

    def test_acts_before_its_own_day(self):
        acts = [place(1, 1, 23, 1), place(2, 2, 23, 2), place(3, 4, 23, 3)]
        self.assertEqual(self.story(acts, 23), [(30, 4, 22), (40, 0, 0)])
        self.assertEqual(self.story([place(1, 1, 23, 1)], 23), [(30, 4, 21)])

    def test_a_name_that_comes_out_bars(self):
        # No act on day 50, but the name of that work is before 21 by an act of day 10.
        kept = KEPT + [species(24, work=5, first_genus=1, forms=BLACK), genus(4, work=6, t="Aus")]
        acts = [advance(1, 1, 24, 0), advance(2, 1, 4, 0)]
        self.assertEqual(self.story(acts, 21, kept), [(10, 0, 0), (50, 2, 24)])
        self.assertEqual(self.story(acts, 1, kept), [(10, 0, 0), (60, 1, 4)])

    def test_works_handed_in_by_falling_days(self):
        kept = TENTH_DAYS[::-1] + KEPT[len(TENTH_DAYS):]
        acts = [place(9, 6, 22, 2), place(8, 4, 22, 1), place(7, 8, 22, 1)]
        self.assertEqual(self.story(acts, 22, kept), [(20, 0, 0), (40, 4, 21), (60, 0, 0), (80, 4, 21)])

    def test_two_works_of_one_day(self):
        kept = KEPT + [work(key, 40) for key in range(20, 25)]
        self.assertEqual(self.story([place(1, 21, 22, 1)], 22, kept), [(20, 0, 0), (40, 4, 21)])

    def test_more_works_of_its_own_day(self):
        kept = KEPT + [work(key, 20) for key in range(20, 25)]
        self.assertEqual(self.story([], 22, kept), [(20, 0, 0)])
        self.assertEqual(self.story([place(1, 21, 22, 1)], 22, kept), [(20, 4, 21)])

    def test_all_of_the_years(self):
        kept = KEPT + [work(50, 95327), work(51, 95328), work(52, HIGH_DAY)]
        acts = [sink(1, 50, 2, 1), replaced(2, 51, 22, 21), revive(3, 52, 2)]
        self.assertEqual(self.story(acts, 22, kept), [(20, 0, 0), (95327, 4, 21), (HIGH_DAY, 0, 0)])

    def test_each_day_as_bar_answers_it(self):
        acts = [sink(1, 4, 2, 1), replaced(2, 5, 22, 21), revive(3, 6, 2), lift(4, 7, 22), place(5, 8, 22, 1)]
        days = range(20, 95)
        told = {d: (kind, name) for d, kind, name in self.story(acts, 22)}
        now = None
        for d, answer in zip(days, asked(KEPT + acts, *[bar(d, 22) for d in days])):
            now = told.get(d, now)
            self.assertEqual(tuple(answer), now)
        self.assertEqual(list(told), [20, 40, 50, 70, 80])

    def test_of_status_2_and_of_genus_names(self):
        self.assertEqual(self.story([status(1, 3, 22, 2), place(2, 4, 22, 1)], 22), [(20, 0, 0), (40, 4, 21)])
        kept = KEPT + [genus(4, work=4, t="Aus")]
        acts = [status(1, 5, 1, 2), status(2, 6, 1, 0), advance(3, 7, 4, 0)]
        self.assertEqual(self.story(acts, 4, kept), [(40, 1, 1), (50, 0, 0), (60, 1, 1), (70, 0, 0)])
        self.assertEqual(self.story(acts, 1, kept), [(10, 0, 0), (70, 1, 4)])

    def test_no_name_of_that_key(self):
        given = after(KEPT + [lift(99, 1, 21)], *[history(a) for a in (0, 4, 9, 99, -1, FAR, -FAR)])
        self.assertEqual(given, [[-6]] * 7)
        self.assertEqual(after([], history(1)), [[-6]])


if __name__ == "__main__":
    unittest.main()
