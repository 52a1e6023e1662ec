"""What the calls 12 to 17, which ask about one name at a day, refuse, and in which order."""

import unittest

from tests.support import FAR, HIGH_DAY, TENTH_DAYS, WRONG_DAYS
from tests.support import after, bar, genus, group, home, homonyms, place, sink, species, text, usable

ONE_NAME_CALLS = (usable, bar, home, text, group, homonyms)

KEPT = TENTH_DAYS + [genus(1, work=2), genus(2, work=5, t="Bus"), species(21, work=2),
                     species(22, work=5, first_genus=2)]


class OneNameTest(unittest.TestCase):

    def test_each_is_answered_from_the_name_s_own_day_on(self):
        for ask in ONE_NAME_CALLS:
            for a, own in ((1, 20), (2, 50), (21, 20), (22, 50)):
                if ask == group and a > 20:
                    continue
                given = after(KEPT, ask(0, a), ask(own - 1, a), ask(own, a), ask(HIGH_DAY, a))
                with self.subTest(ask=ask.__name__, a=a):
                    self.assertEqual([answer[0] < 0 for answer in given], [True, True, False, False])
                    self.assertEqual(given[:2], [[-6], [-6]])

    def test_acts_about_a_name_do_not_bring_it_out(self):
        acts = [place(1, 1, 22, 1), sink(2, 1, 2, 1), sink(3, 1, 1, 2)]
        for ask in ONE_NAME_CALLS:
            self.assertEqual(after(KEPT + acts, ask(10, 22), ask(20, 22), ask(49, 2)), [[-6]] * 3)

    def test_no_such_name(self):
        for ask in ONE_NAME_CALLS:
            given = after(KEPT + [place(99, 1, 22, 1)], *[ask(50, a) for a in (0, 3, 99, 5, -1, FAR, -FAR)])
            self.assertEqual(given, [[-6]] * 7, ask.__name__)
            self.assertEqual(after([], ask(0, 1)), [[-6]])

    def test_a_day_out_of_range_is_refused_before_all_else(self):
        for ask in ONE_NAME_CALLS:
            for d in WRONG_DAYS:
                given = after(KEPT, ask(d, 1), ask(d, 21), ask(d, 99), ask(d, 0), ask(d, -FAR))
                self.assertEqual(given, [[-9]] * 5, ask.__name__)

    def test_the_ends_of_the_days(self):
        kept = [[0, 1, 0], [0, 2, HIGH_DAY], genus(1), species(2), genus(3, work=2), species(4, work=2, first_genus=3)]
        for ask in ONE_NAME_CALLS:
            given = after(kept, ask(0, 1), ask(HIGH_DAY, 3), ask(HIGH_DAY - 1, 3))
            self.assertEqual([answer[0] for answer in given], [1 if ask == usable else 0, 0, -6])


if __name__ == "__main__":
    unittest.main()
