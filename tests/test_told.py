"""told: all that is kept, and nothing else."""

import itertools
import unittest

from tests.support import FEMININE, HIGH_DAY, HIGH_KEY, HIGH_PAGE, MASCULINE, NEUTER
from tests.support import advance, after, asked, bar, barred, first, genus, group, history, home, homonyms, lift, place
from tests.support import precedence, replaced, revive, row, run, sink, species, status, text, told, unite, usable
from tests.support import what_if, what_status, work

WORKS = [work(7, 30), work(3, 50), work(5, 10)]
GENERA = [genus(12, work=7, page=4, gender=FEMININE, t="Bea"), genus(11, work=3, page=6, gender=NEUTER, t="Aium")]
SPECIES = [species(22, work=5, page=8, first_genus=12), species(13, work=7, page=9, first_genus=11,
                                                                forms=("ab", "abc", "abcd"))]
KEPT = WORKS + GENERA + SPECIES

TOLD_WORKS = [3, 3, 50, 5, 10, 7, 30]
TOLD_GENERA = [2, 11, 3, 6, 2] + row("Aium") + [12, 7, 4, 1] + row("Bea")
TOLD_SPECIES = ([2, 13, 7, 9, 11] + row("ab") + row("abc") + row("abcd")
                + [22, 5, 8, 12] + row("niger") + row("nigra") + row("nigrum"))


def told_after(calls):
    return asked(calls, told())[0]


class ToldTest(unittest.TestCase):

    def test_nothing_kept(self):
        self.assertEqual(run(told()), [[0, 0, 0, 0, 0]])

    def test_works_by_rising_keys(self):
        for works in itertools.permutations(WORKS):
            self.assertEqual(told_after(list(works)), TOLD_WORKS + [0, 0, 0])

    def test_genus_names_by_rising_keys(self):
        for genera in itertools.permutations(GENERA):
            self.assertEqual(told_after(WORKS + list(genera)), TOLD_WORKS + TOLD_GENERA + [0, 0])

    def test_species_names_by_rising_keys(self):
        for kinds in itertools.permutations(SPECIES):
            self.assertEqual(told_after(WORKS + GENERA + list(kinds)), TOLD_WORKS + TOLD_GENERA + TOLD_SPECIES + [0])

    def told_acts(self, acts):
        given = told_after(KEPT + list(acts))
        ahead = TOLD_WORKS + TOLD_GENERA + TOLD_SPECIES
        self.assertEqual(given[:len(ahead)], ahead)
        return given[len(ahead):]

    def test_the_b_of_each_kind(self):
        self.assertEqual(self.told_acts([place(1, 7, 13, 12)]), [1, 1, 1, 7, 13, 12])
        self.assertEqual(self.told_acts([sink(1, 7, 11, 12)]), [1, 1, 2, 7, 11, 12])
        self.assertEqual(self.told_acts([revive(1, 7, 11)]), [1, 1, 3, 7, 11, 0])
        for x in (0, 1, 2):
            self.assertEqual(self.told_acts([status(1, 7, 11, x)]), [1, 1, 4, 7, 11, x])
            self.assertEqual(self.told_acts([status(1, 3, 22, x)]), [1, 1, 4, 3, 22, x])
        for x in (0, 17, HIGH_DAY):
            self.assertEqual(self.told_acts([advance(1, 7, 12, x)]), [1, 1, 5, 7, 12, x])
        self.assertEqual(self.told_acts([replaced(1, 5, 22, 13)]), [1, 1, 6, 5, 22, 13])
        self.assertEqual(self.told_acts([lift(1, 3, 22)]), [1, 1, 7, 3, 22, 0])

    def test_acts_in_their_order(self):
        acts = [status(9, 5, 11, 1), lift(2, 7, 13), place(8, 7, 22, 11), revive(1, 3, 12)]
        expected = [4, 9, 4, 5, 11, 1, 2, 7, 7, 13, 0, 8, 1, 7, 22, 11, 1, 3, 3, 12, 0]
        for handed_in in itertools.permutations(acts):
            self.assertEqual(self.told_acts(handed_in), expected)

    def test_acts_of_two_works_of_one_day(self):
        kept = [work(1, 5), work(2, 5), genus(1)]
        for acts in itertools.permutations([revive(30, 1, 1), revive(20, 2, 1), revive(100, 2, 1), revive(4, 1, 1)]):
            given = told_after(kept + list(acts))
            self.assertEqual(given[-20:], [4, 3, 1, 1, 0, 20, 3, 2, 1, 0, 30, 3, 1, 1, 0, 100, 3, 2, 1, 0])

    def test_an_act_that_does_nothing_is_told(self):
        acts = [sink(1, 7, 11, 12), sink(2, 7, 12, 11)]
        self.assertEqual(self.told_acts(acts), [2, 1, 2, 7, 11, 12, 2, 2, 7, 12, 11])

    def test_what_was_refused_is_not_in_it(self):
        wrong = [work(7, 30), work(0, 1), work(8, -1), genus(11), genus(13, work=7), genus(14, work=99),
                 genus(14, work=7, t="aus"), genus(14, work=7, gender=3), species(11, work=7, first_genus=11),
                 species(14, work=7, first_genus=22), species(14, work=7, first_genus=11, forms=("a", "ab", "ab")),
                 place(1, 7, 11, 12), sink(1, 7, 11, 11), revive(1, 7, 22), status(1, 7, 11, 3), advance(1, 7, 11, -1),
                 replaced(1, 7, 22, 22), lift(1, 7, 11), lift(1, 99, 22), lift(0, 7, 22)]
        given = run(*KEPT, *wrong, told())
        self.assertTrue(all(answer[0] < 0 for answer in given[len(KEPT):-1]))
        self.assertEqual(given[-1], [0] + TOLD_WORKS + TOLD_GENERA + TOLD_SPECIES + [0])

    def test_a_refused_act_takes_no_key(self):
        given = run(*KEPT, revive(1, 7, 99), revive(1, 7, 11), revive(1, 7, 12), told())
        self.assertEqual(given[-4:-1], [[-6], [0], [-5]])
        self.assertEqual(given[-1][-6:], [1, 1, 3, 7, 11, 0])

    def test_what_is_kept_stays_as_it_is(self):
        acts = [place(1, 7, 13, 12), sink(2, 7, 11, 12), status(3, 7, 13, 2), advance(4, 7, 13, 1),
                replaced(5, 7, 13, 22), lift(6, 7, 13), revive(7, 7, 11)]
        asking = [what_status(50, 13), precedence(50, 13), usable(50, 13), bar(50, 13), home(50, 13), text(50, 13),
                  group(50, 12), homonyms(50, 13), what_if(50, 13, 11), unite(50, 12, 11), barred(50),
                  first(50, [13, 22]), history(13)]
        given = after(KEPT + acts, told(), *asking, *asking, told(), told())
        self.assertEqual(given[0], given[-1])
        self.assertEqual(given[0], given[-2])
        self.assertEqual(given[1:14], given[14:27])
        self.assertTrue(all(answer[0] >= 0 for answer in given))

    def test_it_grows_with_what_is_kept(self):
        given = run(told(), work(1, 2), told(), genus(5, t="Aa"), told(), species(4, first_genus=5, forms=("ab",) * 3),
                    told(), revive(9, 1, 5), told())
        works, genera = [1, 1, 2], [1, 5, 1, 1, 0, 2, 65, 97]
        kinds = [1, 4, 1, 1, 5] + [2, 97, 98] * 3
        self.assertEqual(given[0::2], [[0, 0, 0, 0, 0], [0] + works + [0, 0, 0], [0] + works + genera + [0, 0],
                                       [0] + works + genera + kinds + [0],
                                       [0] + works + genera + kinds + [1, 9, 3, 1, 5, 0]])

    def test_the_greatest_of_all(self):
        long = "Z" + "z" * 29
        form = "a" * 30
        kept = [work(HIGH_KEY, HIGH_DAY), genus(HIGH_KEY, HIGH_KEY, HIGH_PAGE, MASCULINE, long),
                species(HIGH_KEY - 1, HIGH_KEY, HIGH_PAGE, HIGH_KEY, (form, form, form)),
                lift(HIGH_KEY, HIGH_KEY, HIGH_KEY - 1)]
        self.assertEqual(told_after(kept), [1, HIGH_KEY, HIGH_DAY, 1, HIGH_KEY, HIGH_KEY, HIGH_PAGE, 0] + row(long)
                         + [1, HIGH_KEY - 1, HIGH_KEY, HIGH_PAGE, HIGH_KEY] + row(form) * 3
                         + [1, HIGH_KEY, 7, HIGH_KEY, HIGH_KEY - 1, 0])


if __name__ == "__main__":
    unittest.main()
