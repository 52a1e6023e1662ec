"""Sunk and revived genera, heads and homes, as home answers them."""

import itertools
import unittest

from tests.support import FEMININE, HIGH_DAY, MASCULINE, NEUTER, TENTH_DAYS
from tests.support import advance, after, asked, genus, home, lift, place, replaced, revive, signs, sink, species
from tests.support import status, text, work

# Genus names 1 to 5 and species name 21 of day 10; genus name 9 and species name 29 of day 50.
KEPT = TENTH_DAYS + [genus(key) for key in range(1, 6)] + [
    genus(9, work=5, gender=FEMININE, t="Nova"), species(21, first_genus=1), species(29, work=5, first_genus=2)]


def heads(acts, d, keys=(1, 2, 3, 4, 5), before=KEPT):
    given = asked(before + list(acts), *[home(d, key) for key in keys])
    for key, answer in zip(keys, given):
        if answer[0] != key or len(answer) != 2:
            raise AssertionError(f"genus name {key} answered {answer}")
    return [answer[1] for answer in given]


class SinkTest(unittest.TestCase):

    def test_at_first_into_none(self):
        self.assertEqual(heads([], 10), [1, 2, 3, 4, 5])
        self.assertEqual(heads([], HIGH_DAY), [1, 2, 3, 4, 5])

    def test_one_into_another_from_the_act_s_day_on(self):
        acts = [sink(1, 3, 1, 2)]
        self.assertEqual(heads(acts, 29), [1, 2, 3, 4, 5])
        self.assertEqual(heads(acts, 30), [2, 2, 3, 4, 5])
        self.assertEqual(heads(acts, 31), [2, 2, 3, 4, 5])
        self.assertEqual(heads(acts, HIGH_DAY), [2, 2, 3, 4, 5])

    def test_the_head_is_what_one_comes_to_in_the_end(self):
        acts = [sink(1, 3, 1, 2), sink(2, 4, 2, 3), sink(3, 5, 3, 4), sink(4, 5, 5, 2)]
        self.assertEqual(heads(acts, 30), [2, 2, 3, 4, 5])
        self.assertEqual(heads(acts, 40), [3, 3, 3, 4, 5])
        self.assertEqual(heads(acts, 50), [4, 4, 4, 4, 4])

    def test_a_greater_key_may_be_sunk_into_a_lesser_one(self):
        self.assertEqual(heads([sink(1, 3, 5, 1), sink(2, 3, 4, 5)], 30), [1, 2, 3, 1, 1])

    def test_sunk_again_instead_of_before(self):
        acts = [sink(1, 3, 1, 2), sink(2, 4, 1, 3)]
        self.assertEqual(heads(acts, 30), [2, 2, 3, 4, 5])
        self.assertEqual(heads(acts, 40), [3, 2, 3, 4, 5])
        # What was sunk into it comes along.
        acts = [sink(1, 3, 1, 2), sink(2, 3, 2, 3), sink(3, 4, 2, 4)]
        self.assertEqual(heads(acts, 30), [3, 3, 3, 4, 5])
        self.assertEqual(heads(acts, 40), [4, 4, 3, 4, 5])

    def test_the_same_sink_twice(self):
        self.assertEqual(heads([sink(1, 3, 1, 2), sink(2, 4, 1, 2)], 40), [2, 2, 3, 4, 5])


class RingTest(unittest.TestCase):

    def test_in_one_step(self):
        self.assertEqual(heads([sink(1, 3, 1, 2), sink(2, 4, 2, 1)], 40), [2, 2, 3, 4, 5])

    def test_in_two_steps(self):
        self.assertEqual(heads([sink(1, 3, 1, 2), sink(2, 3, 2, 3), sink(3, 4, 3, 1)], 40), [3, 3, 3, 4, 5])

    def test_in_three_and_four_steps(self):
        acts = [sink(key, 3, key, key + 1) for key in range(1, 5)]
        self.assertEqual(heads(acts + [sink(9, 4, 5, 2)], 40), [5, 5, 5, 5, 5])
        self.assertEqual(heads(acts + [sink(9, 4, 5, 1)], 40), [5, 5, 5, 5, 5])
        self.assertEqual(heads(acts + [sink(9, 4, 4, 1)], 40), [5, 5, 5, 5, 5])

    def test_an_act_that_does_nothing_leaves_what_was_before(self):
        # 1 lies in 2, and 3 in 1: sinking 1 into 3 would go round.
        acts = [sink(1, 3, 1, 2), sink(2, 3, 3, 1), sink(3, 4, 1, 3)]
        self.assertEqual(heads(acts, 40), [2, 2, 2, 4, 5])
        # In the middle of a chain, too.
        acts = [sink(1, 3, 1, 2), sink(2, 3, 2, 3), sink(3, 3, 3, 4), sink(4, 4, 3, 1)]
        self.assertEqual(heads(acts, 40), [4, 4, 4, 4, 5])

    def test_what_a_itself_is_sunk_into_does_not_matter(self):
        # 1 comes to 3 through 2 already: this is no ring, so 1 lies in 3 itself from now on.
        acts = [sink(1, 3, 1, 2), sink(2, 3, 2, 3), sink(3, 4, 1, 3)]
        self.assertEqual(heads(acts + [sink(4, 5, 2, 4)], 50), [3, 4, 3, 4, 5])
        # 4 and 1 both lie in 2: 1 may be sunk into 4.
        acts = [sink(1, 3, 1, 2), sink(2, 3, 4, 2), sink(3, 4, 1, 4)]
        self.assertEqual(heads(acts + [sink(4, 5, 4, 5)], 50), [5, 2, 3, 5, 5])

    def test_it_does_nothing_for_good(self):
        # The ring would be open after 1 is revived, but the act isn't gone through again.
        acts = [sink(1, 3, 1, 2), sink(2, 4, 2, 1), revive(3, 5, 1)]
        self.assertEqual(heads(acts, 50), [1, 2, 3, 4, 5])
        self.assertEqual(heads(acts + [sink(4, 6, 2, 1)], 60), [1, 1, 3, 4, 5])

    def test_which_of_two_does_nothing_goes_by_their_order(self):
        for acts in itertools.permutations([sink(7, 3, 1, 2), sink(6, 3, 2, 1)]):
            self.assertEqual(heads(acts, 30), [1, 1, 3, 4, 5])
        for acts in itertools.permutations([sink(7, 3, 1, 2), sink(6, 4, 2, 1)]):
            self.assertEqual(heads(acts, 40), [2, 2, 3, 4, 5])
        for acts in itertools.permutations([sink(8, 3, 3, 1), sink(7, 3, 2, 3), sink(6, 3, 1, 2)]):
            self.assertEqual(heads(acts, 30), [3, 3, 3, 4, 5])
        for acts in itertools.permutations([sink(6, 3, 3, 1), sink(7, 3, 2, 3), sink(8, 3, 1, 2)]):
            self.assertEqual(heads(acts, 30), [1, 1, 1, 4, 5])


class ReviveTest(unittest.TestCase):

    def test_into_none_from_the_act_s_day_on(self):
        acts = [sink(1, 3, 1, 2), revive(2, 4, 1)]
        self.assertEqual(heads(acts, 39), [2, 2, 3, 4, 5])
        self.assertEqual(heads(acts, 40), [1, 2, 3, 4, 5])

    def test_in_the_middle_of_a_chain(self):
        acts = [sink(1, 3, 1, 2), sink(2, 3, 2, 3), revive(3, 4, 2)]
        self.assertEqual(heads(acts, 40), [2, 2, 3, 4, 5])

    def test_the_head_of_others(self):
        self.assertEqual(heads([sink(1, 3, 1, 2), revive(2, 4, 2)], 40), [2, 2, 3, 4, 5])

    def test_one_that_is_not_sunk(self):
        self.assertEqual(heads([revive(1, 3, 1), sink(2, 4, 1, 2)], 30), [1, 2, 3, 4, 5])
        self.assertEqual(heads([revive(1, 3, 1), sink(2, 4, 1, 2)], 40), [2, 2, 3, 4, 5])

    def test_sunk_once_more(self):
        acts = [sink(1, 3, 1, 2), revive(2, 4, 1), sink(3, 5, 1, 3), revive(4, 6, 1), sink(5, 7, 1, 2)]
        self.assertEqual([heads(acts, d)[0] for d in (30, 40, 50, 60, 70)], [2, 1, 3, 1, 2])

    def test_acts_of_one_day_by_their_keys(self):
        for acts in itertools.permutations([sink(5, 3, 1, 2), revive(6, 3, 1)]):
            self.assertEqual(heads(acts, 30), [1, 2, 3, 4, 5])
        for acts in itertools.permutations([sink(6, 3, 1, 2), revive(5, 3, 1)]):
            self.assertEqual(heads(acts, 30), [2, 2, 3, 4, 5])
        for acts in itertools.permutations([sink(100, 3, 1, 2), revive(20, 3, 1), sink(3, 3, 1, 4)]):
            self.assertEqual(heads(acts, 30), [2, 2, 3, 4, 5])
        for acts in itertools.permutations([sink(20, 3, 1, 2), revive(100, 3, 1), sink(3, 3, 2, 1)]):
            # By the keys 2 is sunk into 1 first, the sink back does nothing, and 1 is revived.
            self.assertEqual(heads(acts, 30), [1, 1, 3, 4, 5])

    def test_a_later_day_beats_a_greater_key(self):
        for acts in itertools.permutations([sink(100, 3, 1, 2), revive(5, 4, 1)]):
            self.assertEqual((heads(acts, 30)[0], heads(acts, 40)[0]), (2, 1))


class AllSunkTest(unittest.TestCase):

    def test_all_24_one_into_the_next(self):
        kept = TENTH_DAYS + [genus(key) for key in range(1, 25)]
        everyone = range(1, 25)
        acts = [sink(key, 3, key, key + 1) for key in range(1, 24)]
        for handed_in in (acts, acts[::-1], acts[::2] + acts[1::2]):
            self.assertEqual(heads(handed_in, 30, everyone, kept), [24] * 24)
        for goal in range(1, 24):
            self.assertEqual(heads(acts + [sink(99, 4, 24, goal)], 40, everyone, kept), [24] * 24)
        self.assertEqual(heads(acts + [revive(99, 4, 12)], 40, everyone, kept), [12] * 12 + [24] * 12)
        self.assertEqual(heads(acts + [revive(98, 4, 12), sink(99, 4, 24, 1)], 40, everyone, kept), [12] * 24)

    def test_the_other_way_round(self):
        kept = TENTH_DAYS + [genus(key) for key in range(1, 25)]
        acts = [sink(key, 3, 26 - key, 25 - key) for key in range(2, 25)]
        self.assertEqual(heads(acts, 30, range(1, 25), kept), [1] * 24)


class HomeTest(unittest.TestCase):

    def homes(self, acts, days, a=21):
        return [tuple(answer) for answer in asked(KEPT + list(acts), *[home(d, a) for d in days])]

    def test_the_first_genus_if_it_is_placed_nowhere(self):
        self.assertEqual(self.homes([], (10, HIGH_DAY)), [(1, 1), (1, 1)])
        self.assertEqual(self.homes([], (50,), a=29), [(2, 2)])

    def test_placed_from_the_act_s_day_on(self):
        acts = [place(1, 3, 21, 2), place(2, 5, 21, 3)]
        self.assertEqual(self.homes(acts, (29, 30, 31, 49, 50)), [(1, 1), (2, 2), (2, 2), (2, 2), (3, 3)])

    def test_placed_back_in_the_first_genus(self):
        self.assertEqual(self.homes([place(1, 3, 21, 2), place(2, 4, 21, 1)], (30, 40)), [(2, 2), (1, 1)])

    def test_others_placed_do_not_matter(self):
        self.assertEqual(self.homes([place(1, 3, 29, 3)], (30,)), [(1, 1)])

    def test_the_latest_place_tells_whatever_the_order_of_handing_in(self):
        for acts in itertools.permutations([place(9, 3, 21, 2), place(8, 4, 21, 3), place(7, 5, 21, 4)]):
            self.assertEqual(self.homes(acts, (30, 40, 50)), [(2, 2), (3, 3), (4, 4)])
        for acts in itertools.permutations([place(9, 3, 21, 2), place(8, 3, 21, 3), place(10, 3, 21, 4)]):
            self.assertEqual(self.homes(acts, (29, 30)), [(1, 1), (4, 4)])

    def test_the_home_is_the_head_of_where_it_is_placed(self):
        acts = [sink(1, 3, 1, 2), sink(2, 4, 2, 3), place(3, 5, 21, 4), sink(4, 6, 4, 5), revive(5, 7, 4)]
        self.assertEqual(self.homes(acts, (20, 30, 40, 50, 60, 70)),
                         [(1, 1), (1, 2), (1, 3), (4, 4), (4, 5), (4, 4)])

    def test_placed_in_one_that_is_sunk_already(self):
        self.assertEqual(self.homes([sink(1, 3, 2, 3), place(2, 4, 21, 2)], (40,)), [(2, 3)])

    def test_a_head_that_is_not_out(self):
        acts = [sink(1, 3, 1, 9)]
        self.assertEqual(self.homes(acts, (29, 30, 50)), [(1, 1), (1, 9), (1, 9)])
        self.assertEqual(heads(acts, 30)[0], 9)
        self.assertEqual(after(KEPT + acts, home(30, 9), home(49, 9), home(50, 9)), [[-6], [-6], [0, 9, 9]])

    def test_a_home_that_is_not_out(self):
        self.assertEqual(self.homes([place(1, 3, 21, 9)], (30, 50)), [(9, 9), (9, 9)])
        self.assertEqual(self.homes([place(1, 3, 21, 9), sink(2, 3, 9, 3)], (30,)), [(9, 3)])

    def test_a_first_genus_that_is_not_out(self):
        kept = KEPT + [species(22, first_genus=9)]
        self.assertEqual(asked(kept, home(10, 22), text(10, 22)), [[9, 9], signs("Nova nigra")])

    def test_acts_before_the_species_name_is_out(self):
        self.assertEqual(self.homes([place(1, 1, 29, 3), sink(2, 2, 3, 4)], (50,), a=29), [(3, 4)])

    def test_acts_of_other_kinds_do_not_matter(self):
        acts = [status(1, 3, 21, 2), status(2, 3, 1, 2), advance(3, 3, 21, 2), advance(4, 3, 1, 2),
                replaced(5, 3, 21, 29), lift(6, 3, 21), revive(7, 3, 1)]
        self.assertEqual(self.homes(acts, (30,)), [(1, 1)])


class TextTest(unittest.TestCase):

    KEPT = TENTH_DAYS + [
        genus(1, gender=MASCULINE, t="Aus"), genus(2, gender=FEMININE, t="Bea"), genus(3, gender=NEUTER, t="Cium"),
        genus(9, work=5, gender=NEUTER, t="Novum"), species(21, first_genus=1), species(22, first_genus=2),
        species(23, first_genus=3, forms=("ab", "abcdefghijklmnopqrstuvwxyzabcd", "xyz"))]

    def test_of_a_genus_name_its_text(self):
        given = asked(self.KEPT + [sink(1, 3, 1, 2)], text(30, 1), text(30, 2), text(30, 3))
        self.assertEqual(given, [signs("Aus"), signs("Bea"), signs("Cium")])

    def test_of_a_species_name_in_each_gender(self):
        given = asked(self.KEPT, text(10, 21), text(10, 22), text(10, 23))
        self.assertEqual(given, [signs("Aus niger"), signs("Bea nigra"), signs("Cium xyz")])

    def test_as_it_is_moved_and_its_genera_are_sunk(self):
        acts = [place(1, 3, 21, 3), sink(2, 4, 3, 2), revive(3, 5, 3), place(4, 6, 21, 1)]
        given = asked(self.KEPT + acts, *[text(d, 21) for d in (29, 30, 40, 50, 60)])
        self.assertEqual(given, [signs("Aus niger"), signs("Cium nigrum"), signs("Bea nigra"), signs("Cium nigrum"),
                                 signs("Aus niger")])

    def test_of_a_home_that_is_not_out(self):
        given = asked(self.KEPT + [sink(1, 3, 1, 9)], text(30, 21), text(30, 1))
        self.assertEqual(given, [signs("Novum nigrum"), signs("Aus")])

    def test_the_longest_and_the_shortest(self):
        long = "B" + "c" * 29
        kept = self.KEPT + [genus(4, gender=FEMININE, t=long), genus(5, t="Zz"), place(1, 3, 23, 4), place(2, 4, 23, 5)]
        given = asked(kept, text(30, 4), text(30, 23), text(40, 23))
        self.assertEqual(given, [signs(long), signs(long + " abcdefghijklmnopqrstuvwxyzabcd"), signs("Zz ab")])

    def test_work_of_the_same_day_as_asked(self):
        kept = [work(1, 0), genus(1), species(2)]
        self.assertEqual(asked(kept, text(0, 1), text(0, 2)), [signs("Aus"), signs("Aus niger")])


if __name__ == "__main__":
    unittest.main()
