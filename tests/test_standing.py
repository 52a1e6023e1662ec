"""whatStatus and precedence."""

import itertools
import unittest

from tests.support import FAR, HIGH_DAY, WRONG_DAYS
from tests.support import advance, after, genus, lift, place, precedence, replaced, revive, sink, species, status
from tests.support import what_status, work

# Works 1 to 5 of the days 10 to 50, and work 6 of day 30; genus names 11 and 12, species names 21 and 22.
KEPT = [work(1, 10), work(2, 20), work(3, 30), work(4, 40), work(5, 50), work(6, 30),
        genus(11, work=2, page=3), genus(12, work=2, page=4), species(21, work=2, page=5, first_genus=11),
        species(22, work=2, page=6, first_genus=12)]
ASKED = (11, 21)
DAYS = (20, 29, 30, 31, 39, 40, 41, 49, 50, HIGH_DAY)


def statuses(acts, a, days=DAYS):
    given = after(KEPT + list(acts), *[what_status(d, a) for d in days])
    return [answer[0] if len(answer) == 1 else answer for answer in given]


def given_days(test, acts, a, days=DAYS):
    """The first number of the precedence; the other four must be the name's own."""
    own = [20, 2, {11: 3, 12: 4, 21: 5, 22: 6}[a], a]
    found = []
    for answer in after(KEPT + list(acts), *[precedence(d, a) for d in days]):
        test.assertEqual((answer[0], answer[2:]), (0, own))
        found.append(answer[1])
    return found


class NoActTest(unittest.TestCase):

    def test_the_status_is_0(self):
        for a in ASKED:
            self.assertEqual(statuses([], a), [0] * len(DAYS))

    def test_the_precedence_begins_with_its_own_day(self):
        for a in ASKED:
            self.assertEqual(given_days(self, [], a), [20] * len(DAYS))

    def test_acts_of_other_kinds_and_about_others_do_not_matter(self):
        others = [place(1, 3, 21, 12), sink(2, 3, 11, 12), revive(3, 3, 11), replaced(4, 3, 21, 22), lift(5, 3, 21),
                  status(6, 3, 12, 2), status(7, 3, 22, 2), advance(8, 3, 12, 1), advance(9, 3, 22, 1)]
        for a in ASKED:
            with self.subTest(a=a):
                self.assertEqual(statuses(others + [advance(10, 3, a, 2)], a), [0] * len(DAYS))
                self.assertEqual(given_days(self, others + [status(10, 3, a, 2)], a), [20] * len(DAYS))


class SeveralActsTest(unittest.TestCase):

    def test_the_day_itself_counts_and_the_day_after_does_not(self):
        for a in ASKED:
            with self.subTest(a=a):
                self.assertEqual(statuses([status(1, 3, a, 2)], a), [0, 0, 2, 2, 2, 2, 2, 2, 2, 2])
                self.assertEqual(given_days(self, [advance(1, 3, a, 7)], a), [20, 20, 7, 7, 7, 7, 7, 7, 7, 7])

    def test_acts_of_several_days_in_any_order(self):
        for a in ASKED:
            told = [status(9, 3, a, 2), status(8, 4, a, 1), status(7, 5, a, 0)]
            for acts in itertools.permutations(told):
                with self.subTest(a=a, acts=acts):
                    self.assertEqual(statuses(acts, a), [0, 0, 2, 2, 2, 1, 1, 1, 0, 0])
            told = [advance(9, 3, a, 5), advance(8, 4, a, HIGH_DAY), advance(7, 5, a, 0)]
            for acts in itertools.permutations(told):
                with self.subTest(a=a, acts=acts):
                    self.assertEqual(given_days(self, acts, a),
                                     [20, 20, 5, 5, 5, HIGH_DAY, HIGH_DAY, HIGH_DAY, 0, 0])

    def test_acts_of_one_day_go_by_their_keys_in_any_order(self):
        for a in ASKED:
            # Works 3 and 6 are of one day: the key of the act tells, not that of the work.
            for works in itertools.product((3, 6), repeat=3):
                told = [status(100, works[0], a, 1), status(20, works[1], a, 2), status(3, works[2], a, 0)]
                for acts in itertools.permutations(told):
                    with self.subTest(a=a, acts=acts):
                        self.assertEqual(statuses(acts, a, (29, 30, 31)), [0, 1, 1])
                told = [advance(100, works[0], a, 9), advance(20, works[1], a, 8), advance(3, works[2], a, 400)]
                for acts in itertools.permutations(told):
                    with self.subTest(a=a, acts=acts):
                        self.assertEqual(given_days(self, acts, a, (29, 30, 31)), [20, 9, 9])

    def test_a_later_day_beats_a_greater_key(self):
        for a in ASKED:
            for acts in itertools.permutations([status(100, 3, a, 1), status(5, 4, a, 2)]):
                self.assertEqual(statuses(acts, a, (30, 39, 40)), [1, 1, 2])
            for acts in itertools.permutations([advance(100, 3, a, 1), advance(5, 4, a, 60)]):
                self.assertEqual(given_days(self, acts, a, (30, 39, 40)), [1, 1, 60])

    def test_acts_before_the_day_of_the_name(self):
        for a in ASKED:
            with self.subTest(a=a):
                self.assertEqual(statuses([status(1, 1, a, 2)], a, (20, 21)), [2, 2])
                self.assertEqual(given_days(self, [advance(1, 1, a, 15)], a, (20, 21)), [15, 15])
                given = after(KEPT + [status(1, 1, a, 2)], what_status(10, a), what_status(19, a), precedence(19, a))
                self.assertEqual(given, [[-6], [-6], [-6]])

    def test_acts_of_the_day_of_the_name(self):
        for a in ASKED:
            self.assertEqual(statuses([status(1, 2, a, 2)], a, (20,)), [2])
            self.assertEqual(given_days(self, [advance(1, 2, a, 400)], a, (20,)), [400])

    def test_an_act_counts_from_when_it_is_handed_in(self):
        given = after(KEPT, what_status(30, 21), status(1, 3, 21, 1), what_status(30, 21), status(2, 3, 21, 0),
                      what_status(30, 21), precedence(30, 21), advance(3, 3, 21, 6), precedence(30, 21))
        self.assertEqual(given, [[0], [0], [1], [0], [0], [0, 20, 20, 2, 5, 21], [0], [0, 6, 20, 2, 5, 21]])

    def test_a_status_of_0_takes_an_earlier_one_back(self):
        self.assertEqual(statuses([status(1, 3, 11, 2), status(2, 4, 11, 0)], 11, (30, 40)), [2, 0])

    def test_a_name_of_each_kind_has_its_own(self):
        acts = [status(1, 3, 11, 1), status(2, 3, 21, 2), advance(3, 3, 11, 1), advance(4, 3, 21, 2)]
        given = after(KEPT + acts, *[ask(30, a) for a in (11, 12, 21, 22) for ask in (what_status, precedence)])
        self.assertEqual(given, [[1], [0, 1, 20, 2, 3, 11], [0], [0, 20, 20, 2, 4, 12],
                                 [2], [0, 2, 20, 2, 5, 21], [0], [0, 20, 20, 2, 6, 22]])


class RefusedQuestionsTest(unittest.TestCase):

    def test_a_name_is_asked_from_its_own_day_on(self):
        for a in ASKED:
            for ask in (what_status, precedence):
                given = after(KEPT, ask(0, a), ask(19, a), ask(20, a), ask(HIGH_DAY, a))
                self.assertEqual([answer[0] for answer in given], [-6, -6, 0, 0])

    def test_the_ends_of_the_days(self):
        before = [work(1, 0), work(2, HIGH_DAY), genus(11), genus(12, work=2)]
        given = after(before, what_status(0, 11), precedence(0, 11), what_status(HIGH_DAY - 1, 12),
                      what_status(HIGH_DAY, 12), precedence(HIGH_DAY, 12))
        self.assertEqual(given, [[0], [0, 0, 0, 1, 1, 11], [-6], [0], [0, HIGH_DAY, HIGH_DAY, 2, 1, 12]])

    def test_a_day_out_of_range_is_refused_before_all_else(self):
        for d in WRONG_DAYS:
            for a in (11, 21, 99, 0, -1, FAR):
                with self.subTest(d=d, a=a):
                    self.assertEqual(after(KEPT, what_status(d, a), precedence(d, a)), [[-9], [-9]])

    def test_no_such_name(self):
        for a in (0, 1, 2, 99, -1, FAR, -FAR):
            with self.subTest(a=a):
                self.assertEqual(after(KEPT + [lift(99, 1, 21)], what_status(30, a), precedence(30, a)), [[-6], [-6]])

    def test_nothing_kept(self):
        self.assertEqual(after([], what_status(0, 1), precedence(0, 1), what_status(-1, 1)), [[-6], [-6], [-9]])

    def test_asking_changes_nothing(self):
        asked = [what_status(30, 21), precedence(30, 21)]
        given = after(KEPT + [status(1, 3, 21, 1), advance(2, 3, 21, 4)], *asked, what_status(-1, 0), *asked)
        self.assertEqual(given, [[1], [0, 4, 20, 2, 5, 21], [-9], [1], [0, 4, 20, 2, 5, 21]])


if __name__ == "__main__":
    unittest.main()
