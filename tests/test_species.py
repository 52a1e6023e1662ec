import unittest

from tests.support import HIGH_DAY, HIGH_KEY, HIGH_PAGE, LOW_KEY, LOW_PAGE, WRONG_KEYS, WRONG_PAGES
from tests.support import after, genus, place, precedence, species, status, what_status, work

ONE_GENUS = [work(1, 10), genus(500)]

WRONG_FORMS = (
    "", "a", "a" * 31, "a" * 40, "Niger", "nIger", "nigeR", "ni er", "niger ", "1iger", "n-r",
    [96, 97, 97], [123, 97, 97], [65, 97, 97], [90, 97, 97], [0, 97, 97], [255, 97, 97],
    [97, 96, 97], [97, 123, 97], [97, 65, 97], [97, 0, 97], [97, 255, 97],
    [97, 97, 96], [97, 97, 123], [97, 97, 90], [97, 97, 0], [97, 97, 255],
)

RIGHT_FORMS = ("aa", "zz", "az", "niger", "a" * 30, "z" * 30, "abcdefghijklmnopqrstuvwxyz")


def new(key, **told):
    return species(key, **{"first_genus": 500, **told})


def with_form(at, form):
    forms = ["niger", "nigra", "nigrum"]
    forms[at] = form
    return forms


class SpeciesTest(unittest.TestCase):

    def test_a_species_name_is_kept(self):
        given = after(ONE_GENUS, new(3, page=44), precedence(10, 3), what_status(10, 3))
        self.assertEqual(given, [[0], [0, 10, 10, 1, 44, 3], [0]])

    def test_the_ends_of_the_ranges_are_taken(self):
        for key in (LOW_KEY, HIGH_KEY):
            for page in (LOW_PAGE, HIGH_PAGE):
                with self.subTest(key=key, page=page):
                    given = after(ONE_GENUS, new(key, page=page), precedence(HIGH_DAY, key))
                    self.assertEqual(given, [[0], [0, 10, 10, 1, page, key]])

    def test_a_key_out_of_range_is_refused(self):
        for key in WRONG_KEYS:
            with self.subTest(key=key):
                self.assertEqual(after(ONE_GENUS, new(key)), [[-4]])

    def test_a_page_out_of_range_is_refused(self):
        for page in WRONG_PAGES:
            with self.subTest(page=page):
                self.assertEqual(after(ONE_GENUS, new(5, page=page)), [[-9]])

    def test_right_forms_are_taken_the_same_or_not(self):
        for form in RIGHT_FORMS:
            for forms in ([form] * 3, with_form(0, form), with_form(1, form), with_form(2, form)):
                with self.subTest(forms=forms):
                    self.assertEqual(after(ONE_GENUS, new(5, forms=forms), precedence(10, 5)),
                                     [[0], [0, 10, 10, 1, 1, 5]])

    def test_a_wrong_form_at_any_place_is_refused(self):
        for form in WRONG_FORMS:
            for at in range(3):
                with self.subTest(form=form, at=at):
                    given = after(ONE_GENUS, new(5, forms=with_form(at, form)), what_status(10, 5))
                    self.assertEqual(given, [[-1], [-6]])

    def test_a_key_of_a_genus_name_or_a_species_name_is_taken(self):
        given = after(ONE_GENUS, new(2), new(2), new(500), new(3))
        self.assertEqual(given, [[0], [-5], [-5], [0]])

    def test_keys_of_acts_and_works_are_free(self):
        given = after(ONE_GENUS, status(2, 1, 500, 0), new(2), new(1))
        self.assertEqual(given, [[0], [0], [0]])

    def test_a_work_that_is_not_there_is_refused(self):
        for other in (0, 2, -1, 500, 1000000000001):
            with self.subTest(work=other):
                self.assertEqual(after(ONE_GENUS, new(5, work=other)), [[-6]])

    def test_a_first_genus_that_is_no_genus_name_is_refused(self):
        for other in (0, 1, 5, 6, -1, 1000000000001):
            with self.subTest(first_genus=other):
                self.assertEqual(after(ONE_GENUS, new(6), new(5, first_genus=other)), [[0], [-6]])

    def test_a_first_genus_that_comes_out_later_is_taken(self):
        before = [work(1, 10), work(2, 20), genus(500, work=2)]
        given = after(before, new(5), what_status(10, 5), what_status(10, 500))
        self.assertEqual(given, [[0], [0], [-6]])

    def test_forty_species_names_and_no_more(self):
        before = ONE_GENUS + [new(key) for key in range(1, 41)]
        given = after(before, new(41), new(41, work=2), new(41, first_genus=40), new(40), what_status(10, 40),
                      what_status(10, 41), genus(41))
        self.assertEqual(given, [[-8], [-6], [-6], [-5], [0], [-6], [0]])

    def test_genus_names_and_refused_ones_are_not_counted(self):
        before = ONE_GENUS + [genus(501), genus(502)] + [new(key) for key in range(1, 40)]
        refused = [new(0), new(50, page=0), new(50, forms=with_form(2, "x")), new(1), new(50, work=9),
                   new(50, first_genus=1)]
        given = after(before, *refused, new(40), new(41))
        self.assertEqual(given, [[-4], [-9], [-1], [-5], [-6], [-6], [0], [-8]])

    def test_the_order_of_refusals(self):
        bad_forms = with_form(1, "X")
        cases = [
            (new(0, work=9, page=0, first_genus=9, forms=bad_forms), -4),
            (new(1, work=9, page=0, first_genus=9, forms=bad_forms), -9),
            (new(1, work=9, first_genus=9, forms=bad_forms), -1),
            (new(1, work=9, first_genus=9), -5),
            (new(1, work=9), -5),
            (new(1, first_genus=9), -5),
            (new(2, work=9), -6),
            (new(2, first_genus=9), -6),
        ]
        full = ONE_GENUS + [new(1)] + [new(key) for key in range(101, 140)]
        for before in (ONE_GENUS + [new(1)], full):
            for call, refusal in cases:
                with self.subTest(call=call, kept=len(before)):
                    self.assertEqual(after(before, call), [[refusal]])

    def test_a_refused_species_name_changes_nothing(self):
        before = [work(1, 10), work(2, 20), genus(500), new(1, work=2, page=7)]
        given = after(before, new(1, work=1, page=8), precedence(20, 1), what_status(19, 1),
                      new(2, work=3), what_status(20, 2), place(1, 1, 2, 500), new(2))
        self.assertEqual(given, [[-5], [0, 20, 20, 2, 7, 1], [-6], [-6], [-6], [-6], [0]])


if __name__ == "__main__":
    unittest.main()
