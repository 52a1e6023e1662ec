import unittest

from tests.support import FAR, HIGH_DAY, HIGH_KEY, LOW_KEY, WRONG_KEYS
from tests.support import advance, after, genus, lift, place, precedence, replaced, revive, sink, species, status
from tests.support import what_status, work

# Works 1 and 2, genus names 11 and 12, species names 21 and 22.
NAMES = [work(1, 10), work(2, 20), genus(11), genus(12, t="Bus"), species(21, first_genus=11),
         species(22, first_genus=12)]
GENERA = (11, 12)
SPECIES = (21, 22)
NO_NAMES = (0, 1, 2, 99, -1, FAR, -FAR)


def one_of_each(key, work=1):
    """A call of each kind that is taken where NAMES are kept."""
    return [place(key, work, 21, 12), sink(key, work, 11, 12), revive(key, work, 11), status(key, work, 11, 1),
            advance(key, work, 21, 5), replaced(key, work, 21, 22), lift(key, work, 21)]


class EveryActTest(unittest.TestCase):

    def test_every_act_is_taken(self):
        for call in one_of_each(7):
            with self.subTest(call=call):
                self.assertEqual(after(NAMES, call), [[0]])

    def test_the_ends_of_the_range_of_keys_are_taken(self):
        for key in (LOW_KEY, HIGH_KEY):
            for call in one_of_each(key):
                with self.subTest(call=call):
                    self.assertEqual(after(NAMES, call, call), [[0], [-5]])

    def test_a_key_out_of_range_is_refused(self):
        for key in WRONG_KEYS:
            for call in one_of_each(key):
                with self.subTest(call=call):
                    self.assertEqual(after(NAMES, call), [[-4]])

    def test_all_acts_together_have_their_keys(self):
        for first in one_of_each(7):
            for second in one_of_each(7, work=2):
                with self.subTest(first=first, second=second):
                    self.assertEqual(after(NAMES, first, second), [[0], [-5]])

    def test_keys_of_works_and_names_are_free(self):
        for key in (1, 2, 11, 21):
            for call in one_of_each(key):
                with self.subTest(call=call):
                    self.assertEqual(after(NAMES, call), [[0]])

    def test_a_work_that_is_not_there_is_refused(self):
        for other in (0, 3, 11, 21, -1, FAR):
            for call in one_of_each(7, work=other):
                with self.subTest(call=call):
                    self.assertEqual(after(NAMES, call), [[-6]])

    def test_eighty_acts_of_all_kinds_and_no_more(self):
        before = NAMES + [one_of_each(key)[key % 7] for key in range(1, 81)]
        for call in one_of_each(81):
            with self.subTest(call=call):
                self.assertEqual(after(before[:-1], call), [[0]])
                self.assertEqual(after(before, call), [[-8]])

    def test_refused_acts_are_not_counted(self):
        before = NAMES + [one_of_each(key)[key % 7] for key in range(1, 80)]
        refused = [lift(0, 1, 21), status(100, 1, 11, 3), advance(100, 1, 11, -1), lift(1, 1, 21), lift(100, 3, 21),
                   sink(100, 1, 11, 11)]
        given = after(before, *refused, lift(80, 1, 21), lift(100, 1, 21))
        self.assertEqual(given, [[-4], [-9], [-9], [-5], [-6], [-10], [0], [-8]])

    def test_a_full_book_refuses_last(self):
        full = NAMES + [lift(key, 1, 21) for key in range(1, 81)]
        cases = [(lift(0, 1, 21), -4), (status(81, 1, 11, 3), -9), (advance(81, 1, 11, HIGH_DAY + 1), -9),
                 (lift(80, 1, 21), -5), (lift(81, 3, 21), -6), (lift(81, 1, 11), -6), (sink(81, 1, 11, 11), -10),
                 (replaced(81, 1, 21, 21), -10), (place(81, 1, 21, 11), -8)]
        for call, refusal in cases:
            with self.subTest(call=call):
                self.assertEqual(after(full, call), [[refusal]])

    def test_an_act_may_be_before_its_names(self):
        before = [work(1, 10), work(2, 20), genus(11, work=2), genus(12, work=2), species(21, work=2, first_genus=11),
                  species(22, work=2, first_genus=12)]
        for call in one_of_each(7):
            with self.subTest(call=call):
                self.assertEqual(after(before, call), [[0]])


class NamesOfActsTest(unittest.TestCase):

    def check(self, call, a_taken, b_taken):
        """Tries each a with a right b, and each b with a right a."""
        for key in GENERA + SPECIES + NO_NAMES:
            b = [other for other in b_taken if other != key][0]
            a = [other for other in a_taken if other != key][0]
            with self.subTest(call=call.__name__, name=key):
                self.assertEqual(after(NAMES, call(7, 1, key, b)), [[0 if key in a_taken else -6]])
                self.assertEqual(after(NAMES, call(7, 1, a, key)), [[0 if key in b_taken else -6]])

    def check_a(self, call, a_taken):
        for key in GENERA + SPECIES + NO_NAMES:
            with self.subTest(name=key):
                self.assertEqual(after(NAMES, call(key)), [[0 if key in a_taken else -6]])

    def test_place_takes_a_species_name_and_a_genus_name(self):
        self.check(place, SPECIES, GENERA)

    def test_sink_takes_two_genus_names(self):
        self.check(sink, GENERA, GENERA)

    def test_replaced_takes_two_species_names(self):
        self.check(replaced, SPECIES, SPECIES)

    def test_revive_takes_a_genus_name(self):
        self.check_a(lambda key: revive(7, 1, key), GENERA)

    def test_status_takes_a_name_of_either_kind(self):
        self.check_a(lambda key: status(7, 1, key, 1), GENERA + SPECIES)

    def test_advance_takes_a_name_of_either_kind(self):
        self.check_a(lambda key: advance(7, 1, key, 1), GENERA + SPECIES)

    def test_lift_takes_a_species_name(self):
        self.check_a(lambda key: lift(7, 1, key), SPECIES)

    def test_a_name_is_told_in_place_of_the_first_genus_too(self):
        self.assertEqual(after(NAMES, place(7, 1, 21, 11)), [[0]])


class SameNamesTest(unittest.TestCase):

    def test_sink_and_replaced_refuse_a_name_with_itself(self):
        for call in (sink(7, 1, 11, 11), sink(7, 1, 12, 12), replaced(7, 1, 21, 21), replaced(7, 1, 22, 22)):
            with self.subTest(call=call):
                self.assertEqual(after(NAMES, call), [[-10]])

    def test_both_ways_are_taken(self):
        given = after(NAMES, sink(1, 1, 11, 12), sink(2, 1, 12, 11), replaced(3, 1, 21, 22), replaced(4, 1, 22, 21))
        self.assertEqual(given, [[0]] * 4)

    def test_what_is_no_name_of_the_kind_is_told_first(self):
        for call in (sink(7, 1, 21, 21), sink(7, 1, 99, 99), replaced(7, 1, 11, 11), replaced(7, 1, 99, 99),
                     place(7, 1, 21, 21), place(7, 1, 11, 11), sink(7, 3, 11, 11), replaced(7, 3, 21, 21)):
            with self.subTest(call=call):
                self.assertEqual(after(NAMES, call), [[-6]])

    def test_x_may_be_the_number_of_the_name(self):
        before = [work(1, 10), genus(1), genus(2)]
        given = after(before, status(7, 1, 1, 1), status(8, 1, 2, 2), advance(9, 1, 1, 1))
        self.assertEqual(given, [[0], [0], [0]])


class RangeOfXTest(unittest.TestCase):

    def test_status_takes_0_to_2(self):
        for x in (0, 1, 2):
            with self.subTest(x=x):
                self.assertEqual(after(NAMES, status(7, 1, 11, x), what_status(10, 11)), [[0], [x]])

    def test_status_refuses_all_else(self):
        for x in (-1, 3, 10, FAR, -FAR):
            with self.subTest(x=x):
                self.assertEqual(after(NAMES, status(7, 1, 11, x), what_status(10, 11)), [[-9], [0]])

    def test_advance_takes_days(self):
        for x in (0, 1, 3, HIGH_DAY):
            with self.subTest(x=x):
                self.assertEqual(after(NAMES, advance(7, 1, 11, x), precedence(10, 11)), [[0], [0, x, 10, 1, 1, 11]])

    def test_advance_refuses_all_else(self):
        for x in (-1, HIGH_DAY + 1, FAR, -FAR):
            with self.subTest(x=x):
                self.assertEqual(after(NAMES, advance(7, 1, 11, x), precedence(10, 11)), [[-9], [0, 10, 10, 1, 1, 11]])


class OrderOfRefusalsTest(unittest.TestCase):

    def test_the_order_where_two_or_more_fit(self):
        before = NAMES + [lift(7, 1, 21)]
        cases = [
            (status(0, 9, 99, 3), -4), (advance(HIGH_KEY + 1, 9, 99, -1), -4), (sink(0, 9, 11, 11), -4),
            (status(7, 9, 99, 3), -9), (advance(7, 9, 99, -1), -9), (status(8, 9, 99, -1), -9),
            (advance(8, 1, 99, HIGH_DAY + 1), -9),
            (place(7, 9, 11, 21), -5), (sink(7, 1, 11, 11), -5), (replaced(7, 1, 21, 21), -5), (revive(7, 9, 99), -5),
            (status(7, 9, 99, 0), -5), (advance(7, 9, 99, 0), -5), (lift(7, 9, 99), -5),
            (sink(8, 9, 12, 12), -6), (replaced(8, 9, 22, 22), -6), (sink(8, 1, 98, 98), -6),
        ]
        for call, refusal in cases:
            with self.subTest(call=call):
                self.assertEqual(after(before, call), [[refusal]])


class RefusedActsChangeNothingTest(unittest.TestCase):

    def test_the_key_stays_free(self):
        refused = [status(7, 1, 11, 3), advance(7, 1, 11, -1), lift(7, 9, 21), lift(7, 1, 11), sink(7, 1, 11, 11)]
        given = after(NAMES, *refused, lift(7, 1, 21), lift(7, 1, 21))
        self.assertEqual(given, [[-9], [-9], [-6], [-6], [-10], [0], [-5]])

    def test_status_and_precedence_stay(self):
        before = NAMES + [status(7, 1, 11, 1), advance(8, 1, 11, 4)]
        refused = [status(7, 2, 11, 2), advance(8, 2, 11, 6), status(9, 3, 11, 2), advance(9, 3, 11, 6),
                   status(0, 1, 11, 2), advance(0, 1, 11, 6)]
        given = after(before, *refused, what_status(HIGH_DAY, 11), precedence(HIGH_DAY, 11))
        self.assertEqual(given, [[-5], [-5], [-6], [-6], [-4], [-4], [1], [0, 4, 10, 1, 1, 11]])

    def test_an_act_over_the_bound_is_not_kept(self):
        before = NAMES + [lift(key, 1, 21) for key in range(1, 81)]
        given = after(before, status(81, 1, 11, 2), what_status(20, 11), advance(81, 1, 11, 3), precedence(20, 11))
        self.assertEqual(given, [[-8], [0], [-8], [0, 10, 10, 1, 1, 11]])

    def test_the_last_act_that_is_taken_is_kept(self):
        before = NAMES + [lift(key, 1, 21) for key in range(1, 80)]
        self.assertEqual(after(before, status(80, 1, 11, 2), what_status(20, 11)), [[0], [2]])
        self.assertEqual(after(before, advance(80, 1, 11, 3), precedence(20, 11)), [[0], [0, 3, 10, 1, 1, 11]])


if __name__ == "__main__":
    unittest.main()
