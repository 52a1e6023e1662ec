"""How calls and answers lie in their lists, and that nothing is kept or changed."""

import contextlib
import io
import random
import unittest

from namebars.desk import answers
from tests.support import advance, genus, joined, lift, place, precedence, replaced, revive, run, sink, species
from tests.support import status, what_status, work

ONE_OF_EACH = [
    work(1, 10), genus(11), genus(12, t="Bus", gender=1), species(21, first_genus=11), species(22, first_genus=12),
    place(1, 1, 21, 12), sink(2, 1, 11, 12), revive(3, 1, 11), status(4, 1, 21, 2), advance(5, 1, 21, 3),
    replaced(6, 1, 21, 22), lift(7, 1, 21), what_status(10, 21), precedence(10, 21), work(0, 1), what_status(9, 21),
]
ANSWERED = [1, 0] * 12 + [1, 2, 6, 0, 3, 10, 1, 1, 21, 1, -4, 1, -6]


class FrozenList(list):
    """A list that fails where it is changed, be it for a while only."""

    def fail(self, *args, **kwargs):
        raise AssertionError("the list that was handed in is changed")

    append = extend = insert = pop = remove = clear = sort = reverse = fail
    __setitem__ = __delitem__ = __iadd__ = __imul__ = fail


class ListsTest(unittest.TestCase):

    def test_the_numbers_as_they_stand(self):
        calls = [0, 7, 30, 1, 5, 7, 2, 1, 3, 65, 117, 115,
                 2, 6, 7, 3, 5, 2, 97, 98, 3, 97, 98, 99, 2, 97, 100,
                 6, 1, 7, 6, 1, 10, 30, 6, 11, 30, 5, 11, 29, 5]
        self.assertEqual(answers(calls), [1, 0, 1, 0, 1, 0, 1, 0, 1, 1, 6, 0, 30, 30, 7, 2, 5, 1, -6])

    def test_one_call_of_each(self):
        self.assertEqual(answers(joined(ONE_OF_EACH)), ANSWERED)

    def test_a_list_of_plain_whole_numbers_is_given_back(self):
        given = answers(joined(ONE_OF_EACH))
        self.assertIs(type(given), list)
        self.assertEqual({type(number) for number in given}, {int})

    def test_a_single_call(self):
        self.assertEqual(answers([0, 1, 1]), [1, 0])
        self.assertEqual(answers([0, 0, 1]), [1, -4])
        self.assertEqual(answers([10, 0, 1]), [1, -6])

    def test_rows_of_every_length_are_stepped_over(self):
        for length in range(41):
            row = [length] + [97] * length
            form = [0 if 2 <= length <= 30 else -1]
            calls = [work(1, 5), genus(1), [1, 2, 1, 1, 0] + row, [2, 3, 1, 1, 1] + row + row + row, work(2, 6)]
            with self.subTest(length=length):
                self.assertEqual(run(*calls), [[0], [0], [-1], form, [0]])

    def test_a_refused_call_is_stepped_over_whole(self):
        calls = [genus(0, work=0, page=0, gender=9, t=[255] * 40), species(0, forms=([0] * 40, [], [1] * 7)),
                 place(0, 0, 0, 0), sink(0, 0, 0, 0), revive(0, 0, 0), status(0, 0, 0, 0), advance(0, 0, 0, 0),
                 replaced(0, 0, 0, 0), lift(0, 0, 0), what_status(-1, 0), precedence(-1, 0), work(1, 1)]
        self.assertEqual(run(*calls), [[-4]] * 9 + [[-9], [-9], [0]])

    def test_the_longest_lists(self):
        calls = [work(1, 1), genus(1)] + [species(2, forms=([97] * 40,) * 3)] * 190 + [what_status(1, 1)] * 58
        self.assertEqual(len(calls), 250)
        self.assertEqual(run(*calls), [[0], [0]] + [[-1]] * 190 + [[0]] * 58)


class NothingKeptTest(unittest.TestCase):

    def test_the_list_is_the_same_afterwards(self):
        calls = joined(ONE_OF_EACH)
        before = list(calls)
        answers(calls)
        self.assertEqual(calls, before)

    def test_the_list_is_not_changed_for_a_while_either(self):
        self.assertEqual(answers(FrozenList(joined(ONE_OF_EACH))), ANSWERED)

    def test_a_second_time_answers_as_the_first(self):
        calls = joined(ONE_OF_EACH)
        first = answers(calls)
        second = answers(calls)
        self.assertEqual(first, second)
        first.append(99)
        self.assertEqual(answers(calls), second)

    def test_each_list_begins_with_nothing(self):
        answers(joined(ONE_OF_EACH))
        given = run(what_status(10, 21), genus(11), lift(7, 1, 21), work(1, 10), genus(11), what_status(10, 11))
        self.assertEqual(given, [[-6], [-6], [-6], [0], [0], [0]])

    def test_bounds_do_not_add_up_over_lists(self):
        calls = joined([work(key, 5) for key in range(1, 61)])
        for turn in range(3):
            self.assertEqual(answers(calls), [1, 0] * 60)

    def test_nothing_is_printed(self):
        printed = io.StringIO()
        with contextlib.redirect_stdout(printed), contextlib.redirect_stderr(printed):
            answers(joined(ONE_OF_EACH))
        self.assertEqual(printed.getvalue(), "")


class OrderOfHandingInTest(unittest.TestCase):

    def setUp(self):
        self.source = random.Random(25)
        self.days = {key: self.source.randrange(30) for key in range(1, 21)}

    def some_acts(self):
        """Eighty acts as (key, work, name, whether it is a status, x)."""
        acts = []
        for key in self.source.sample(range(1, 1000), 80):
            is_status = self.source.random() < 0.5
            x = self.source.randrange(3 if is_status else 30)
            acts.append((key, self.source.randrange(1, 21), self.source.randrange(1, 11), is_status, x))
        return acts

    def latest_x(self, acts, d, name, is_status, otherwise):
        past = [act for act in acts if self.days[act[1]] <= d and act[2] == name and act[3] == is_status]
        return max(past, key=lambda act: (self.days[act[1]], act[0]))[4] if past else otherwise

    def expected(self, acts, d, name):
        own = self.days[name]
        if own > d:
            return [[-6], [-6]]
        given = self.latest_x(acts, d, name, False, own)
        return [[self.latest_x(acts, d, name, True, 0)], [0, given, own, name, 1, name]]

    def test_acts_in_any_order(self):
        kept = [work(key, day) for key, day in self.days.items()]
        kept += [genus(key, work=key) for key in range(1, 6)]
        kept += [species(key, work=key, first_genus=1) for key in range(6, 11)]
        for turn in range(60):
            acts = self.some_acts()
            handed_in = [(status if act[3] else advance)(act[0], act[1], act[2], act[4]) for act in acts]
            asked = [(self.source.randrange(30), self.source.randrange(1, 11)) for number in range(60)]
            questions = [ask(*pair) for pair in asked for ask in (what_status, precedence)]
            wanted = [answer for pair in asked for answer in self.expected(acts, *pair)]
            self.assertEqual(run(*kept, *handed_in, *questions)[len(kept) + 80:], wanted)


if __name__ == "__main__":
    unittest.main()
