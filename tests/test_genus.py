import unittest

from tests.support import HIGH_DAY, HIGH_KEY, HIGH_PAGE, LOW_KEY, LOW_PAGE, WRONG_KEYS, WRONG_PAGES
from tests.support import after, genus, precedence, species, status, what_status, work

ONE_WORK = [work(1, 10)]

WRONG_TEXTS = (
    "", "A", "a", "A" + "a" * 30, "A" + "a" * 39,
    "aus", "AUs", "AuS", "AusS", "auS", "A s", "Au-", "1us", "Aus ", " Aus",
    [64, 97, 97], [91, 97, 97], [97, 97, 97], [0, 97, 97], [255, 97, 97],
    [65, 96, 97], [65, 123, 97], [65, 65, 97], [65, 90, 97], [65, 0, 97], [65, 255, 97],
    [65, 97, 96], [65, 97, 123], [65, 97, 65], [65, 97, 0], [65, 97, 255],
    [65, 96], [65, 123],
)

RIGHT_TEXTS = ("Aa", "Az", "Za", "Zz", "Mus", "A" + "z" * 29, "Z" + "a" * 29, "Abcdefghijklmnopqrstuvwxyz")


class GenusTest(unittest.TestCase):

    def test_a_genus_name_is_kept(self):
        given = after(ONE_WORK, genus(3, page=44), precedence(10, 3), what_status(10, 3))
        self.assertEqual(given, [[0], [0, 10, 10, 1, 44, 3], [0]])

    def test_the_ends_of_the_ranges_are_taken(self):
        for key in (LOW_KEY, HIGH_KEY):
            for page in (LOW_PAGE, HIGH_PAGE):
                for gender in (0, 1, 2):
                    with self.subTest(key=key, page=page, gender=gender):
                        given = after(ONE_WORK, genus(key, page=page, gender=gender), precedence(HIGH_DAY, key))
                        self.assertEqual(given, [[0], [0, 10, 10, 1, page, key]])

    def test_a_key_out_of_range_is_refused(self):
        for key in WRONG_KEYS:
            with self.subTest(key=key):
                self.assertEqual(after(ONE_WORK, genus(key)), [[-4]])

    def test_a_page_out_of_range_is_refused(self):
        for page in WRONG_PAGES:
            with self.subTest(page=page):
                self.assertEqual(after(ONE_WORK, genus(5, page=page)), [[-9]])

    def test_a_gender_out_of_range_is_refused(self):
        for gender in (-1, 3, 1000000000000, -1000000000000):
            with self.subTest(gender=gender):
                self.assertEqual(after(ONE_WORK, genus(5, gender=gender)), [[-9]])

    def test_right_texts_are_taken(self):
        for text in RIGHT_TEXTS:
            with self.subTest(text=text):
                self.assertEqual(after(ONE_WORK, genus(5, t=text)), [[0]])

    def test_wrong_texts_are_refused(self):
        for text in WRONG_TEXTS:
            with self.subTest(text=text):
                self.assertEqual(after(ONE_WORK, genus(5, t=text), what_status(10, 5)), [[-1], [-6]])

    def test_each_byte_at_each_place(self):
        for byte in range(256):
            capital = 65 <= byte <= 90
            small = 97 <= byte <= 122
            with self.subTest(byte=byte):
                given = after(ONE_WORK, genus(1, t=[byte, 98, 99]), genus(2, t=[66, byte, 99]),
                              genus(3, t=[66, 98, byte]))
                self.assertEqual(given, [[0 if capital else -1], [0 if small else -1], [0 if small else -1]])

    def test_two_genus_names_may_have_one_text(self):
        self.assertEqual(after(ONE_WORK, genus(1), genus(2)), [[0], [0]])

    def test_a_key_of_a_genus_name_or_a_species_name_is_taken(self):
        given = after(ONE_WORK, genus(1), species(2), genus(1, t="Bus"), genus(2), genus(3))
        self.assertEqual(given, [[0], [0], [-5], [-5], [0]])

    def test_keys_of_acts_and_works_are_free(self):
        given = after(ONE_WORK, genus(1), status(2, 1, 1, 0), genus(2))
        self.assertEqual(given, [[0], [0], [0]])

    def test_a_work_that_is_not_there_is_refused(self):
        for other in (0, 2, -1, 1000000000001):
            with self.subTest(work=other):
                self.assertEqual(after(ONE_WORK, genus(2), genus(5, work=other)), [[0], [-6]])

    def test_twenty_four_genus_names_and_no_more(self):
        before = ONE_WORK + [genus(key) for key in range(1, 25)]
        given = after(before, genus(25), genus(25, work=2), genus(24), what_status(10, 24), what_status(10, 25),
                      species(25))
        self.assertEqual(given, [[-8], [-6], [-5], [0], [-6], [0]])

    def test_species_names_and_refused_ones_are_not_counted(self):
        before = ONE_WORK + [genus(key) for key in range(1, 24)] + [species(90), species(91)]
        refused = [genus(0), genus(50, page=0), genus(50, gender=3), genus(50, t="x"), genus(1), genus(50, work=9)]
        given = after(before, *refused, genus(24), genus(25))
        self.assertEqual(given, [[-4], [-9], [-9], [-1], [-5], [-6], [0], [-8]])

    def test_the_order_of_refusals(self):
        cases = [
            (genus(0, work=9, page=0, gender=3, t=""), -4),
            (genus(1, work=9, page=0, t=""), -9),
            (genus(1, work=9, gender=-1, t=""), -9),
            (genus(1, work=9, t=""), -1),
            (genus(1, work=9), -5),
            (genus(2, work=9), -6),
        ]
        full = ONE_WORK + [genus(1)] + [genus(key) for key in range(101, 124)]
        for before in (ONE_WORK + [genus(1)], full):
            for call, refusal in cases:
                with self.subTest(call=call, kept=len(before)):
                    self.assertEqual(after(before, call), [[refusal]])

    def test_a_refused_genus_name_changes_nothing(self):
        before = [work(1, 10), work(2, 20), genus(1, work=2, page=7)]
        given = after(before, genus(1, work=1, page=8, t="Bus"), precedence(20, 1), what_status(19, 1),
                      genus(2, work=3), what_status(20, 2), species(9, first_genus=2), genus(2))
        self.assertEqual(given, [[-5], [0, 20, 20, 2, 7, 1], [-6], [-6], [-6], [-6], [0]])


if __name__ == "__main__":
    unittest.main()
