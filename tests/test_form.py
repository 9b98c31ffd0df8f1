"""The interface: how calls are handed in, and how answers are given back."""

import inspect
import unittest

from line import answers, ask, call, doubt, entry, joined, put, release, together
from releasesdesk import catalogue


class Form(unittest.TestCase):
    def test_just_the_numbers_of_one_call(self):
        self.assertEqual(answers([0, 0, 0]), [4, 0, 0, 0, 0])
        self.assertEqual(answers([0, 3, 7, 1, 5, 0]), [4, 1, 0, 0, 0])

    def test_several_calls_in_one_list(self):
        calls = [0, 7, 7, 1, 5, 3, 2, 6, 0, 0,
                 1, 4, 7, 2, 40, 41, 0,
                 4, 1, 7, 0,
                 4, 1, 3, 0,
                 4, 1, 9, 0,
                 2, 1, 7, 0,
                 3, 6, 1, 7, 2, 40, 41, 0, 0,
                 3, 1, 0, 0]
        given = [4, 2, 0, 0, 0,
                 4, 2, 1, 0, 0,
                 7, 1, 0, 1, 5, 2, 40, 41,
                 6, 0, 0, 2, 6, 0, 0,
                 1, -2,
                 4, 2, 0, 1, 0,
                 2, 1, 2,
                 1, 0]
        self.assertEqual(answers(calls), given)

    def test_a_refusal_is_its_number_alone(self):
        self.assertEqual(answers(release((100, [1]))), [1, -1])
        self.assertEqual(answers(entry(0)), [1, -2])
        self.assertEqual(answers(release((1, [1])) + doubt(1)), [4, 1, 0, 0, 0, 1, -6])

    def test_what_is_handed_in_stays_as_it_was(self):
        calls = joined([release((1, [2, 3]), (4, [5])), put(1, [6]), doubt(1), put(4, [7]),
                        together((4, [7], [8, 8]), (1, [], [])), release((1, [2, 4])), entry(1)])
        before = list(calls)
        answers(calls)
        self.assertEqual(calls, before)

    def test_what_is_given_back_is_a_list_of_its_own(self):
        calls = joined([release((1, [2, 3])), put(1, [6]), entry(1)])
        given = answers(calls)
        expected = list(given)
        given.clear()
        self.assertEqual(answers(calls), expected)

    def test_asking_twice_answers_the_same(self):
        calls = joined([release((1, [2, 3])), put(1, [6]), release((2, [2, 3])), entry(2), entry(1)])
        self.assertEqual(answers(calls), answers(calls))

    def test_a_line_begins_empty_whatever_was_asked_before(self):
        ask(release((1, [2, 3])), put(1, [6]))
        self.assertEqual(ask(entry(1)), [[-2]])
        self.assertEqual(ask(release((1, [2, 3])), entry(1)), [[1, 0, 0, 0], [0, 0, 2, 2, 3, 0]])

    def test_numbers_are_int_never_bool(self):
        given = answers(joined([release((1, [2]), (2, [9])), put(1, [6]), entry(1), doubt(1), entry(1), entry(2),
                                together((1, [6], []), (2, [], [3])), entry(1), entry(2)]))
        self.assertIs(type(given), list)
        self.assertEqual({type(number) for number in given}, {int})

    def test_answers_takes_calls_alone(self):
        self.assertEqual(str(inspect.signature(catalogue.answers)), "(calls)")

    def test_thirty_calls(self):
        calls = [release((1, [1]))] + [put(1, [n]) for n in range(28)] + [entry(1)]
        self.assertEqual(ask(*calls), [[1, 0, 0, 0]] + [[1, 1, 0, 0]] * 28 + [[1, 0, 1, 1, 1, 27]])

    def test_the_highest_numbers_are_refused_as_told(self):
        top = 4294967295
        self.assertEqual(ask(release((top, [1])), release((1, [top])), put(top, [1]), put(1, [top]), doubt(top),
                             entry(top), together((top, [], [])), together((1, [top], [])), call(3, [top])),
                         [[-1], [-1], [-2], [-1], [-2], [-2], [-2], [-1], [-1]])

    def test_the_longest_release_and_texts_are_refused(self):
        many = release(*[(0, [1])] * 133)
        self.assertEqual(ask(many, put(1, [0] * 99), together(*[(0, [], [])] * 133), release((1, [0] * 398))),
                         [[-1], [-1], [-1], [-1]])


if __name__ == "__main__":
    unittest.main()
