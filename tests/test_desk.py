"""How calls and answers lie in their lists, and that nothing is kept or changed."""

import contextlib
import io
import random
import unittest

from namebars.desk import answers
from tests.support import HIGH_DAY
from tests.support import advance, bar, barred, first, genus, group, history, home, homonyms, joined, lift, place
from tests.support import precedence, replaced, revive, row, run, signs, sink, species, split, status, text, told
from tests.support import unite, usable, what_if, what_status, work

ONE_OF_EACH = [
    work(1, 10), genus(11), genus(12, t="Bus", gender=1), species(21, first_genus=11), species(22, first_genus=12),
    place(1, 1, 21, 12), sink(2, 1, 11, 12), revive(3, 1, 11), status(4, 1, 21, 2), advance(5, 1, 21, 3),
    replaced(6, 1, 21, 22), lift(7, 1, 21), what_status(10, 21), precedence(10, 21), work(0, 1), what_status(9, 21),
    usable(10, 22), bar(10, 22), home(10, 21), text(10, 21), group(10, 12), homonyms(10, 22), what_if(10, 22, 11),
    unite(10, 12, 11), barred(10), first(10, [22, 11]), history(22), told(),
]
TOLD = ([0, 1, 1, 10, 2, 11, 1, 1, 0] + row("Aus") + [12, 1, 1, 1] + row("Bus")
        + [2, 21, 1, 1, 11] + row("niger") + row("nigra") + row("nigrum")
        + [22, 1, 1, 12] + row("niger") + row("nigra") + row("nigrum")
        + [7, 1, 1, 1, 21, 12, 2, 2, 1, 11, 12, 3, 3, 1, 11, 0, 4, 4, 1, 21, 2, 5, 5, 1, 21, 3, 6, 6, 1, 21, 22,
           7, 7, 1, 21, 0])
ANSWERED = [1, 0] * 12 + [1, 2, 6, 0, 3, 10, 1, 1, 21, 1, -4, 1, -6] + [
    1, 1, 3, 0, 0, 0, 3, 0, 12, 12, 10, 0] + signs("Bus nigra") + [3, 0, 21, 22, 3, 0, 21, 22, 3, 0, 0, 0, 1, 0, 1, 0,
    1, 11, 4, 0, 10, 0, 0] + [len(TOLD)] + TOLD


class FrozenList(list):
    """A list that fails where it is changed, be it for a while only."""

    def fail(self, *args, **kwargs):
        raise AssertionError("the list that was handed in is changed")

    append = extend = insert = pop = remove = clear = sort = reverse = fail
    __setitem__ = __delitem__ = __iadd__ = __imul__ = fail


class ListsTest(unittest.TestCase):

    def test_the_numbers_as_they_stand(self):
        calls = [0, 7, 30, 1, 5, 7, 2, 1, 3, 65, 117, 115,
                 2, 6, 7, 3, 5, 2, 97, 98, 3, 97, 98, 99, 2, 97, 100,
                 6, 1, 7, 6, 1, 10, 30, 6, 11, 30, 5, 11, 29, 5]
        self.assertEqual(answers(calls), [1, 0, 1, 0, 1, 0, 1, 0, 1, 1, 6, 0, 30, 30, 7, 2, 5, 1, -6])

    def test_the_numbers_of_the_later_calls_as_they_stand(self):
        calls = [0, 1, 5, 0, 2, 6, 1, 3, 1, 1, 1, 2, 65, 97, 1, 4, 2, 1, 0, 2, 65, 97,
                 2, 7, 1, 1, 3, 2, 97, 98, 2, 97, 99, 2, 97, 100, 4, 9, 2, 3, 4,
                 12, 6, 4, 13, 6, 4, 14, 6, 7, 15, 6, 7, 16, 6, 4, 17, 6, 4, 18, 6, 7, 3, 19, 6, 4, 3, 20, 6,
                 21, 6, 2, 7, 3, 21, 6, 0, 22, 4, 23]
        self.assertEqual(split(answers(calls))[6:], [
            [0], [0, 1, 3], [0, 3, 4], [0, 65, 97, 32, 97, 98], [0, 7], [0, 3, 4], [0, 0, 0], [0], [0, 4, 1, 3],
            [3], [0], [0, 6, 1, 3],
            [0, 2, 1, 5, 2, 6, 2, 3, 1, 1, 1, 2, 65, 97, 4, 2, 1, 0, 2, 65, 97,
             1, 7, 1, 1, 3, 2, 97, 98, 2, 97, 99, 2, 97, 100, 1, 9, 2, 2, 3, 4]])

    def test_one_call_of_each(self):
        self.assertEqual(answers(joined(ONE_OF_EACH)), ANSWERED)

    def test_a_list_of_plain_whole_numbers_is_given_back(self):
        given = answers(joined(ONE_OF_EACH))
        self.assertIs(type(given), list)
        self.assertEqual({type(number) for number in given}, {int})

    def test_a_single_call(self):
        self.assertEqual(answers([0, 1, 1]), [1, 0])
        self.assertEqual(answers([0, 0, 1]), [1, -4])
        self.assertEqual(answers([10, 0, 1]), [1, -6])

    def test_rows_of_every_length_are_stepped_over(self):
        for length in range(41):
            row = [length] + [97] * length
            form = [0 if 2 <= length <= 30 else -1]
            calls = [work(1, 5), genus(1), [1, 2, 1, 1, 0] + row, [2, 3, 1, 1, 1] + row + row + row, work(2, 6)]
            with self.subTest(length=length):
                self.assertEqual(run(*calls), [[0], [0], [-1], form, [0]])

    def test_a_refused_call_is_stepped_over_whole(self):
        calls = [genus(0, work=0, page=0, gender=9, t=[255] * 40), species(0, forms=([0] * 40, [], [1] * 7)),
                 place(0, 0, 0, 0), sink(0, 0, 0, 0), revive(0, 0, 0), status(0, 0, 0, 0), advance(0, 0, 0, 0),
                 replaced(0, 0, 0, 0), lift(0, 0, 0), what_status(-1, 0), precedence(-1, 0), usable(-1, 0), bar(-1, 0),
                 home(-1, 0), text(-1, 0), group(-1, 0), homonyms(-1, 0), what_if(-1, 0, 0), unite(-1, 0, 0),
                 barred(-1), first(-1, [0] * 60), history(0), work(1, 1)]
        self.assertEqual(run(*calls), [[-4]] * 9 + [[-9]] * 12 + [[-6], [0]])

    def test_the_longest_lists(self):
        calls = [work(1, 1), genus(1)] + [species(2, forms=([97] * 40,) * 3)] * 190 + [what_status(1, 1)] * 58
        self.assertEqual(len(calls), 250)
        self.assertEqual(run(*calls), [[0], [0]] + [[-1]] * 190 + [[0]] * 58)


    def test_sets_of_every_length_are_stepped_over(self):
        for length in range(61):
            given = run(work(1, 5), genus(1), first(5, [9] * length), first(5, [9] * length + [1]), work(2, 6))
            self.assertEqual(given, [[0], [0], [0], [1], [0]])


class FullTest(unittest.TestCase):
    """All bounds reached: 60 works, 24 genus names, 40 species names, 80 acts, 250 calls."""

    GENERA = list(range(101, 125))
    SPECIES = list(range(201, 241))

    def kept(self, acts):
        """Work 61 - k is of day 100 k, and all names are alike and long."""
        form = "a" * 30
        works = [work(61 - key, 100 * key) for key in range(1, 61)]
        genera = [genus(key, work=60, page=key, t="A" + "b" * 29) for key in self.GENERA]
        kinds = [species(key, work=60, page=key, first_genus=self.GENERA[key % 24], forms=(form, form, form))
                 for key in self.SPECIES]
        return works + genera + kinds + acts

    def answer_all(self, acts, asked):
        calls = self.kept(acts) + asked
        self.assertEqual(len(calls), 250)
        numbers = joined(calls)
        self.assertLessEqual(len(numbers), 25000)
        before = list(numbers)
        given = split(answers(FrozenList(numbers)))
        self.assertEqual(numbers, before)
        self.assertEqual(given[:204], [[0]] * 204)
        self.assertEqual(split(answers(numbers)), given)
        return given[204:]

    def all_sunk(self):
        """One into the next on day 6000, and 224 replaced on that day because of each other one."""
        sinks = [sink(key, 1, self.GENERA[key - 1], self.GENERA[key]) for key in range(1, 24)]
        others = [key for key in self.SPECIES if key != 224]
        return sinks + [replaced(key, 1, 224, others[key % 39]) for key in range(24, 81)]

    def test_one_genus_into_the_next(self):
        asked = [barred(HIGH_DAY), history(224), history(101), group(6000, 101), unite(6000, 101, 124), told(),
                 group(5999, 101), barred(5999), first(6000, self.SPECIES + list(range(20)))]
        given = self.answer_all(self.all_sunk(), asked + [what_if(6000, 240, 101)] * 37)
        late_genera = [number for key in self.GENERA[1:] for number in (key, 1, 101)]
        kinds_2 = {key: next(other for other in self.SPECIES if other % 24 == key % 24) for key in self.SPECIES}
        late_species = [number for key in self.SPECIES[1:] for number in
                        ((key, 2, kinds_2[key]) if kinds_2[key] != key else (key, 3 if key == 224 else 4, 201))]
        self.assertEqual(given[0], [0] + late_genera + late_species)
        self.assertEqual(given[1], [0, 100, 0, 0, 6000, 3, 201])
        self.assertEqual(given[2], [0, 100, 0, 0])
        self.assertEqual(given[3], [0] + self.SPECIES)
        self.assertEqual(given[4], [0])
        self.assertEqual(given[5][:2] + given[5][122:123], [0, 60, 24])
        self.assertEqual(given[5][-80 * 5 - 1], 80)
        self.assertEqual(given[6], [0] + [key for key in self.SPECIES if self.GENERA[key % 24] == 101])
        self.assertEqual(given[8], [201])
        self.assertEqual(given[9:], [[0, 2, 216]] * 37)

    def test_a_change_on_each_day(self):
        # 202 goes to and fro between the genus of 201 and its own, day by day.
        acts = [place(key, 61 - key, 202, self.GENERA[(200 + 1 + key % 2) % 24]) for key in range(2, 61)]
        acts += [lift(key, 1, 240) for key in range(61, 82)]
        given = self.answer_all(acts, [history(202)] * 46)
        changes = [[100, 0, 0]] + [[100 * key, 0, 0] if key % 2 else [100 * key, 4, 201] for key in range(2, 61)]
        self.assertEqual(given, [[0] + joined(changes)] * 46)

    def test_replacements_of_one_name_on_each_day(self):
        # None of them fits, as 201 is never with 224: each question must look at each of them.
        acts = [replaced(key, key % 60 + 1, 224, 201) for key in range(1, 81)]
        given = self.answer_all(acts, [history(224), barred(6000)] * 23)
        self.assertEqual(given[0::2], [[0, 100, 0, 0]] * 23)
        self.assertEqual(given[1::2], [given[1]] * 23)
        self.assertNotIn(224, given[1])


class NothingKeptTest(unittest.TestCase):

    def test_the_list_is_the_same_afterwards(self):
        calls = joined(ONE_OF_EACH)
        before = list(calls)
        answers(calls)
        self.assertEqual(calls, before)

    def test_the_list_is_not_changed_for_a_while_either(self):
        self.assertEqual(answers(FrozenList(joined(ONE_OF_EACH))), ANSWERED)

    def test_a_second_time_answers_as_the_first(self):
        calls = joined(ONE_OF_EACH)
        first = answers(calls)
        second = answers(calls)
        self.assertEqual(first, second)
        first.append(99)
        self.assertEqual(answers(calls), second)

    def test_each_list_begins_with_nothing(self):
        answers(joined(ONE_OF_EACH))
        given = run(what_status(10, 21), genus(11), lift(7, 1, 21), work(1, 10), genus(11), what_status(10, 11))
        self.assertEqual(given, [[-6], [-6], [-6], [0], [0], [0]])

    def test_bounds_do_not_add_up_over_lists(self):
        calls = joined([work(key, 5) for key in range(1, 61)])
        for turn in range(3):
            self.assertEqual(answers(calls), [1, 0] * 60)

    def test_nothing_is_printed(self):
        printed = io.StringIO()
        with contextlib.redirect_stdout(printed), contextlib.redirect_stderr(printed):
            answers(joined(ONE_OF_EACH))
        self.assertEqual(printed.getvalue(), "")


class OrderOfHandingInTest(unittest.TestCase):

    def setUp(self):
        self.source = random.Random(25)
        self.days = {key: self.source.randrange(30) for key in range(1, 21)}

    def some_acts(self):
        """Eighty acts as (key, work, name, whether it is a status, x)."""
        acts = []
        for key in self.source.sample(range(1, 1000), 80):
            is_status = self.source.random() < 0.5
            x = self.source.randrange(3 if is_status else 30)
            acts.append((key, self.source.randrange(1, 21), self.source.randrange(1, 11), is_status, x))
        return acts

    def latest_x(self, acts, d, name, is_status, otherwise):
        past = [act for act in acts if self.days[act[1]] <= d and act[2] == name and act[3] == is_status]
        return max(past, key=lambda act: (self.days[act[1]], act[0]))[4] if past else otherwise

    def expected(self, acts, d, name):
        own = self.days[name]
        if own > d:
            return [[-6], [-6]]
        given = self.latest_x(acts, d, name, False, own)
        return [[self.latest_x(acts, d, name, True, 0)], [0, given, own, name, 1, name]]

    def test_acts_in_any_order(self):
        kept = [work(key, day) for key, day in self.days.items()]
        kept += [genus(key, work=key) for key in range(1, 6)]
        kept += [species(key, work=key, first_genus=1) for key in range(6, 11)]
        for turn in range(60):
            acts = self.some_acts()
            handed_in = [(status if act[3] else advance)(act[0], act[1], act[2], act[4]) for act in acts]
            asked = [(self.source.randrange(30), self.source.randrange(1, 11)) for number in range(60)]
            questions = [ask(*pair) for pair in asked for ask in (what_status, precedence)]
            wanted = [answer for pair in asked for answer in self.expected(acts, *pair)]
            self.assertEqual(run(*kept, *handed_in, *questions)[len(kept) + 80:], wanted)


if __name__ == "__main__":
    unittest.main()
