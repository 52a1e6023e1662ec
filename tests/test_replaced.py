"""Bars by early replacement: kind 3."""

import itertools
import unittest

from tests.support import FEMININE, HIGH_DAY, MASCULINE, NEUTER, TENTH_DAYS
from tests.support import advance, asked, bars_of, genus, history, lift, place, replaced, revive, sink, species
from tests.support import status, what_if, work

BLACK = ("niger", "nigra", "nigrum")
FIXED = ("nigra", "nigra", "nigra")

# Each species name has a first genus of its own, and is black: 21, 22, 23 of the days 10, 20, 30.
KEPT = TENTH_DAYS + [
    genus(1, gender=MASCULINE, t="Aus"), genus(2, gender=FEMININE, t="Bea"), genus(3, gender=NEUTER, t="Cium"),
    genus(4, gender=MASCULINE, t="Dus"), species(21, work=1, first_genus=1, forms=BLACK),
    species(22, work=2, first_genus=2, forms=BLACK), species(23, work=3, first_genus=3, forms=BLACK)]

# 22 lies with 21 from day 40 on, and they part on day 60.
TOGETHER = [place(41, 4, 22, 1), place(61, 6, 22, 2)]


def bars_of_22(acts, days, kept=KEPT):
    return bars_of(kept + list(acts), 22, days)


class ForEverTest(unittest.TestCase):

    def test_it_holds_on_when_the_two_have_parted(self):
        acts = TOGETHER + [replaced(1, 5, 22, 21)]
        self.assertEqual(bars_of_22(acts, (39, 40, 49, 50, 59, 60, HIGH_DAY)),
                         [(0, 0), (4, 21), (4, 21), (3, 21), (3, 21), (3, 21), (3, 21)])
        self.assertEqual(bars_of(KEPT + acts, 21, (50, 60)), [(0, 0)] * 2)

    def test_without_the_replacement_it_ends(self):
        self.assertEqual(bars_of_22(TOGETHER, (40, 59, 60)), [(4, 21), (4, 21), (0, 0)])

    def test_it_holds_on_whatever_becomes_of_the_other(self):
        acts = TOGETHER + [replaced(1, 5, 22, 21), status(2, 7, 21, 2), advance(3, 8, 21, HIGH_DAY),
                           advance(4, 8, 22, 0), status(5, 8, 22, 2)]
        self.assertEqual(bars_of_22(acts, (60, 70, 80)), [(3, 21)] * 3)

    def test_by_genera_that_were_sunk(self):
        acts = [sink(1, 4, 2, 1), replaced(2, 5, 22, 21), revive(3, 6, 2)]
        self.assertEqual(bars_of_22(acts, (40, 50, 60)), [(4, 21), (3, 21), (3, 21)])

    def test_it_is_judged_by_its_own_day_only(self):
        # They don't lie together before day 50, nor after it, nor is it looked at again later on.
        acts = [replaced(1, 3, 22, 21), place(41, 5, 22, 1), place(61, 6, 22, 2)]
        self.assertEqual(bars_of_22(acts, (30, 50, 60)), [(0, 0), (4, 21), (0, 0)])
        acts = [place(41, 3, 22, 1), place(61, 4, 22, 2), replaced(1, 5, 22, 21)]
        self.assertEqual(bars_of_22(acts, (30, 40, 50, 60)), [(4, 21), (0, 0), (0, 0), (0, 0)])

    def test_only_the_name_that_was_replaced(self):
        acts = [place(41, 4, 22, 1), place(42, 4, 23, 1), replaced(1, 5, 22, 21), place(61, 6, 22, 2),
                place(62, 6, 23, 3)]
        self.assertEqual(bars_of(KEPT + acts, 23, (50, 60)), [(4, 21), (0, 0)])
        self.assertEqual(bars_of(KEPT + acts, 21, (50, 60)), [(0, 0), (0, 0)])

    def test_the_name_told_by_the_act_though_another_is_before_it(self):
        # 23 is barred by 21 first of all, but was replaced because of 22.
        acts = [place(1, 4, 22, 1), place(2, 4, 23, 1), replaced(3, 5, 23, 22), place(4, 6, 23, 3)]
        self.assertEqual(bars_of(KEPT + acts, 23, (40, 50, 60)), [(4, 21), (3, 22), (3, 22)])

    def test_though_it_was_barred_otherwise(self):
        # 24 lies in 2 first, as 22 does, which bars it (kind 2) until it counts no longer.
        kept = KEPT + [species(24, work=3, first_genus=2, forms=BLACK)]
        acts = [place(1, 4, 24, 1), replaced(2, 5, 24, 21), place(3, 6, 24, 2), status(4, 7, 22, 2)]
        self.assertEqual(bars_of(kept + acts, 24, (30, 40, 50, 60, 70)),
                         [(2, 22), (2, 22), (2, 22), (2, 22), (3, 21)])

    def test_the_order_of_kinds(self):
        # On day 70 there are all three: 22 by the first genus, 21 by the replacement, 23 in the home.
        kept = KEPT + [species(24, work=3, page=2, first_genus=2, forms=BLACK)]
        acts = [place(1, 4, 24, 1), replaced(2, 4, 24, 21), place(3, 6, 24, 3)]
        self.assertEqual(bars_of(kept + acts, 24, (60,)), [(2, 22)])
        self.assertEqual(bars_of(kept + acts + [status(4, 7, 22, 2)], 24, (60, 70)), [(2, 22), (3, 21)])
        self.assertEqual(bars_of(kept + acts + [status(4, 7, 22, 2), lift(5, 8, 24)], 24, (70, 80)),
                         [(3, 21), (4, 23)])

    def test_status_of_the_name_that_was_replaced(self):
        for x in (0, 1, 2):
            acts = TOGETHER + [status(1, 4, 22, x), replaced(2, 5, 22, 21)]
            self.assertEqual(bars_of_22(acts, (50, 60)), [(3, 21), (3, 21)])


class JudgedAtItsDayTest(unittest.TestCase):

    def test_the_name_was_not_out(self):
        # 23 comes out on day 30, but is placed with 21 before that.
        acts = [place(1, 1, 23, 1), replaced(2, 2, 23, 21), place(3, 4, 23, 3)]
        self.assertEqual(bars_of(KEPT + acts, 23, (30, 40)), [(4, 21), (0, 0)])
        acts = [place(1, 1, 23, 1), replaced(2, 3, 23, 21), place(3, 4, 23, 3)]
        self.assertEqual(bars_of(KEPT + acts, 23, (30, 40)), [(3, 21), (3, 21)])

    def test_the_other_was_not_out(self):
        # 23 is before 22 by its given day, but comes out on day 30 only.
        for replaced_in, held in ((2, (0, 0)), (3, (3, 23))):
            acts = [advance(1, 1, 23, 0), place(2, 1, 22, 3), replaced(3, replaced_in, 22, 23), place(4, 4, 22, 2)]
            self.assertEqual(bars_of_22(acts, (40,)), [held])

    def test_the_status_of_the_other(self):
        for x, held in ((0, (3, 21)), (1, (3, 21)), (2, (0, 0))):
            acts = TOGETHER + [status(1, 4, 21, x), replaced(2, 5, 22, 21)]
            self.assertEqual(bars_of_22(acts, (60,)), [held])
        # A status of 2 that came later or was taken back before doesn't matter.
        acts = TOGETHER + [replaced(1, 5, 22, 21), status(2, 6, 21, 2)]
        self.assertEqual(bars_of_22(acts, (60,)), [(3, 21)])
        acts = TOGETHER + [status(1, 4, 21, 2), status(2, 5, 21, 0), replaced(3, 5, 22, 21)]
        self.assertEqual(bars_of_22(acts, (60,)), [(3, 21)])
        # One of before that was taken back after it does.
        acts = TOGETHER + [status(1, 4, 21, 2), replaced(2, 5, 22, 21), status(3, 6, 21, 0)]
        self.assertEqual(bars_of_22(acts, (60,)), [(0, 0)])

    def test_the_other_was_not_before_it(self):
        acts = TOGETHER + [replaced(1, 5, 21, 22)]
        self.assertEqual(bars_of(KEPT + acts, 21, (50, 60)), [(0, 0), (0, 0)])
        acts = TOGETHER + [advance(1, 5, 22, 0), replaced(2, 5, 22, 21)]
        self.assertEqual(bars_of_22(acts, (50, 60)), [(0, 0), (0, 0)])
        # Turned round on its day, and back afterwards.
        acts = TOGETHER + [advance(1, 5, 22, 0), replaced(2, 5, 21, 22), advance(3, 6, 22, 20)]
        self.assertEqual(bars_of(KEPT + acts, 21, (50, 60)), [(3, 22), (3, 22)])

    def test_the_other_had_another_home(self):
        acts = [place(1, 4, 22, 3), replaced(2, 5, 22, 21)]
        self.assertEqual(bars_of_22(acts, (50,)), [(0, 0)])
        acts = TOGETHER + [place(1, 5, 21, 4), replaced(2, 5, 22, 21)]
        self.assertEqual(bars_of_22(acts, (50, 60)), [(0, 0), (0, 0)])
        # The same genus by placement, but not the same head.
        acts = [place(1, 4, 22, 3), sink(2, 4, 3, 1), replaced(3, 5, 22, 21), revive(4, 6, 3)]
        self.assertEqual(bars_of_22(acts, (50, 60)), [(3, 21), (3, 21)])

    def test_not_alike_in_the_gender_of_the_home_of_that_day(self):
        for home, held in ((1, (0, 0)), (2, (3, 21)), (3, (0, 0))):
            kept = KEPT + [species(24, work=2, first_genus=4, forms=FIXED)]
            acts = [place(1, 4, 21, home), place(2, 4, 24, home), replaced(3, 5, 24, 21), place(4, 6, 24, 4)]
            with self.subTest(home=home):
                self.assertEqual(bars_of(kept + acts, 24, (60,)), [held])

    def test_by_all_of_that_day_s_past(self):
        # Acts of the same day count whether their keys are lesser or greater than the replacement's.
        for key in (4, 6):
            together = [place(1, 6, 22, 2), replaced(5, 5, 22, 21)]
            self.assertEqual(bars_of_22(together + [place(key, 5, 22, 1)], (50, 60)), [(3, 21), (3, 21)])
            self.assertEqual(bars_of_22(TOGETHER + [replaced(5, 5, 22, 21), place(key, 5, 22, 4)], (50, 60)),
                             [(0, 0), (0, 0)])
            self.assertEqual(bars_of_22(TOGETHER + [replaced(5, 5, 22, 21), status(key, 5, 21, 2)], (50, 60)),
                             [(0, 0), (0, 0)])
            self.assertEqual(bars_of_22(TOGETHER + [replaced(5, 5, 22, 21), advance(key, 5, 22, 1)], (50, 60)),
                             [(0, 0), (0, 0)])
            self.assertEqual(bars_of_22([sink(key, 5, 2, 1), replaced(5, 5, 22, 21), revive(1, 6, 2)], (50, 60)),
                             [(3, 21), (3, 21)])

    def test_kind_2_alone_is_not_enough(self):
        # 24 shares its first genus with 22, but not its home.
        kept = KEPT + [species(24, work=3, first_genus=2, forms=BLACK)]
        acts = [place(1, 4, 24, 4), replaced(2, 5, 24, 22), status(3, 6, 22, 2)]
        self.assertEqual(bars_of(kept + acts, 24, (50, 60)), [(2, 22), (0, 0)])


class LastDayTest(unittest.TestCase):

    def bars_after(self, day):
        """What bars 22 when they have parted, if it was replaced on this day."""
        kept = KEPT + [work(50, day), work(51, HIGH_DAY)]
        acts = [place(1, 4, 22, 1), replaced(2, 50, 22, 21), place(3, 51, 22, 2)]
        return bars_of(kept + acts, 22, (day, HIGH_DAY))

    def test_before_day_95328_only(self):
        self.assertEqual(self.bars_after(95326), [(3, 21), (3, 21)])
        self.assertEqual(self.bars_after(95327), [(3, 21), (3, 21)])
        self.assertEqual(self.bars_after(95328), [(4, 21), (0, 0)])
        self.assertEqual(self.bars_after(95329), [(4, 21), (0, 0)])
        self.assertEqual(self.bars_after(400000), [(4, 21), (0, 0)])

    def test_the_day_of_the_replacement_not_the_day_asked(self):
        kept = KEPT + [work(50, 95327), work(51, 95328)]
        acts = [place(1, 4, 22, 1), replaced(2, 50, 22, 21), place(3, 51, 22, 2)]
        self.assertEqual(bars_of(kept + acts, 22, (95326, 95327, 95328, 95329)), [(4, 21), (3, 21), (3, 21), (3, 21)])
        self.assertEqual(asked(kept + acts, history(22)), [[20, 0, 0, 40, 4, 21, 95327, 3, 21]])

    def test_lifted_by_an_act_of_after_that_day(self):
        kept = KEPT + [work(50, 95327), work(51, 95328), work(52, 100000)]
        acts = [place(1, 4, 22, 1), replaced(2, 50, 22, 21), place(3, 51, 22, 2), lift(4, 52, 22)]
        self.assertEqual(bars_of(kept + acts, 22, (95328, 99999, 100000)), [(3, 21), (3, 21), (0, 0)])


class LiftTest(unittest.TestCase):

    HELD = TOGETHER + [replaced(10, 5, 22, 21)]

    def test_after_it(self):
        self.assertEqual(bars_of_22(self.HELD + [lift(1, 7, 22)], (60, 69, 70, HIGH_DAY)),
                         [(3, 21), (3, 21), (0, 0), (0, 0)])

    def test_while_they_lie_together_kind_4_is_told(self):
        kept = [place(1, 4, 22, 1), replaced(2, 5, 22, 21), lift(3, 6, 22)]
        self.assertEqual(bars_of_22(kept, (50, 60)), [(3, 21), (4, 21)])

    def test_before_it(self):
        self.assertEqual(bars_of_22(self.HELD + [lift(99, 4, 22)], (50, 60)), [(3, 21), (3, 21)])

    def test_on_the_same_day_by_their_keys(self):
        for acts in itertools.permutations([replaced(10, 5, 22, 21), lift(11, 5, 22)]):
            self.assertEqual(bars_of_22(TOGETHER + list(acts), (50, 60)), [(4, 21), (0, 0)])
        for acts in itertools.permutations([replaced(10, 5, 22, 21), lift(9, 5, 22)]):
            self.assertEqual(bars_of_22(TOGETHER + list(acts), (50, 60)), [(3, 21), (3, 21)])

    def test_after_the_day_asked(self):
        self.assertEqual(bars_of_22(self.HELD + [lift(1, 9, 22)], (60, 89, 90)), [(3, 21), (3, 21), (0, 0)])

    def test_of_another_name(self):
        self.assertEqual(bars_of_22(self.HELD + [lift(1, 7, 21), lift(2, 7, 23)], (70,)), [(3, 21)])

    def test_replaced_once_more_after_it(self):
        acts = [place(1, 4, 22, 1), replaced(2, 4, 22, 21), lift(3, 5, 22), replaced(4, 6, 22, 21), place(5, 7, 22, 2)]
        for handed_in in (acts, acts[::-1]):
            self.assertEqual(bars_of_22(handed_in, (40, 50, 60, 70)), [(3, 21), (4, 21), (3, 21), (3, 21)])

    def test_it_lifts_all_replacements_of_before(self):
        acts = [place(1, 4, 23, 1), place(2, 4, 22, 1), replaced(3, 4, 23, 21), replaced(4, 5, 23, 22),
                place(5, 6, 23, 3), lift(6, 7, 23)]
        self.assertEqual(bars_of(KEPT + acts, 23, (40, 50, 60, 70)), [(3, 21), (3, 21), (3, 21), (0, 0)])


class SeveralTest(unittest.TestCase):

    # All three in genus name 1 on day 40; 23 leaves on day 60.
    ALL = [place(91, 4, 22, 1), place(92, 4, 23, 1), place(93, 6, 23, 3)]

    def bars_of_23(self, acts, days=(50, 60)):
        return bars_of(KEPT + self.ALL + list(acts), 23, days)

    def test_the_first_one_is_told(self):
        for acts in itertools.permutations([replaced(9, 4, 23, 22), replaced(8, 5, 23, 21)]):
            self.assertEqual(self.bars_of_23(acts, (40, 50, 60)), [(3, 22)] * 3)
        for acts in itertools.permutations([replaced(9, 4, 23, 21), replaced(8, 5, 23, 22)]):
            self.assertEqual(self.bars_of_23(acts, (40, 50, 60)), [(3, 21)] * 3)

    def test_on_one_day_the_lesser_key(self):
        for acts in itertools.permutations([replaced(9, 5, 23, 21), replaced(8, 5, 23, 22)]):
            self.assertEqual(self.bars_of_23(acts), [(3, 22), (3, 22)])
        for acts in itertools.permutations([replaced(100, 5, 23, 22), replaced(20, 5, 23, 21)]):
            self.assertEqual(self.bars_of_23(acts), [(3, 21), (3, 21)])

    def test_one_that_does_not_fit_is_passed_over(self):
        acts = [replaced(1, 3, 23, 21), replaced(2, 5, 23, 22)]
        self.assertEqual(self.bars_of_23(acts, (40, 50, 60)), [(4, 21), (3, 22), (3, 22)])
        acts = [status(1, 5, 21, 2), replaced(2, 5, 23, 21), replaced(3, 5, 23, 22), status(4, 6, 21, 0)]
        self.assertEqual(self.bars_of_23(acts), [(3, 22), (3, 22)])

    def test_one_that_was_lifted_is_passed_over(self):
        acts = [replaced(1, 4, 23, 21), lift(2, 4, 23), replaced(3, 5, 23, 22)]
        self.assertEqual(self.bars_of_23(acts, (40, 50, 60)), [(4, 21), (3, 22), (3, 22)])

    def test_of_one_pair_each_way_round(self):
        acts = [replaced(1, 4, 23, 21), replaced(2, 4, 21, 23)]
        self.assertEqual(self.bars_of_23(acts, (60,)), [(3, 21)])
        self.assertEqual(bars_of(KEPT + self.ALL + acts, 21, (60,)), [(0, 0)])

    def test_what_if_leaves_it_as_it_is(self):
        acts = [replaced(1, 5, 23, 22)]
        given = asked(KEPT + self.ALL + acts, what_if(60, 23, 1), what_if(60, 23, 3), what_if(49, 23, 3))
        self.assertEqual(given, [[3, 22], [3, 22], [0, 0]])


if __name__ == "__main__":
    unittest.main()
