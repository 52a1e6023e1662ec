import unittest

from tests.support import FAR, HIGH_DAY, HIGH_KEY, LOW_DAY, LOW_KEY, WRONG_DAYS, WRONG_KEYS
from tests.support import after, genus, precedence, run, what_status, work


class WorkTest(unittest.TestCase):

    def test_a_work_is_kept_with_its_day(self):
        given = run(work(7, 30), genus(1, work=7), precedence(30, 1))
        self.assertEqual(given, [[0], [0], [0, 30, 30, 7, 1, 1]])

    def test_the_ends_of_both_ranges_are_taken(self):
        for key in (LOW_KEY, HIGH_KEY):
            for day in (LOW_DAY, HIGH_DAY):
                with self.subTest(key=key, day=day):
                    given = run(work(key, day), genus(1, work=key), precedence(HIGH_DAY, 1))
                    self.assertEqual(given, [[0], [0], [0, day, day, key, 1, 1]])

    def test_a_key_out_of_range_is_refused(self):
        for key in WRONG_KEYS:
            with self.subTest(key=key):
                self.assertEqual(run(work(key, 5)), [[-4]])

    def test_a_day_out_of_range_is_refused(self):
        for day in WRONG_DAYS:
            with self.subTest(day=day):
                self.assertEqual(run(work(5, day)), [[-9]])

    def test_a_key_is_taken_once(self):
        self.assertEqual(run(work(5, 10), work(5, 10), work(5, 11), work(6, 10)), [[0], [-5], [-5], [0]])

    def test_works_have_keys_of_their_own(self):
        self.assertEqual(run(work(1, 10), genus(2), work(2, 10)), [[0], [0], [0]])

    def test_sixty_works_and_no_more(self):
        before = [work(key, 5) for key in range(1, 61)]
        given = after(before, work(61, 5), work(60, 5), work(61, -1), work(0, 5), genus(1, work=60), genus(2, work=61))
        self.assertEqual(given, [[-8], [-5], [-9], [-4], [0], [-6]])

    def test_refused_works_are_not_counted(self):
        before = [work(key, 5) for key in range(1, 60)]
        given = after(before, work(0, 5), work(99, -1), work(1, 6), work(60, 5), work(61, 5))
        self.assertEqual(given, [[-4], [-9], [-5], [0], [-8]])

    def test_the_order_of_refusals(self):
        self.assertEqual(run(work(0, -1)), [[-4]])
        self.assertEqual(run(work(FAR, FAR)), [[-4]])
        self.assertEqual(run(work(5, 1), work(5, -1)), [[0], [-9]])

    def test_a_refused_work_changes_nothing(self):
        given = run(work(5, HIGH_DAY + 1), genus(1, work=5), work(5, 9), work(5, 20),
                    genus(1, work=5), what_status(8, 1), precedence(9, 1))
        self.assertEqual(given, [[-9], [-6], [0], [-5], [0], [-6], [0, 9, 9, 5, 1, 1]])


if __name__ == "__main__":
    unittest.main()
