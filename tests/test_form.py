"""The interface: how calls are handed in, and how answers are given back."""

import inspect
import unittest

from line import (answers, ask, call, doubt, entry, far, joined, kept, put, release, shows, text, together, told_entry,
                  told_kept, told_shows, undo, would)
from releasesdesk import catalogue

# Thirty calls with every kind among them, each with what it answers.
THIRTY = [
    (release((1, [1, 2]), (2, [3])), [2, 0, 0, 0]),
    (put(1, [11]), [2, 1, 0, 0]),
    (put(2, [12, 13]), [2, 2, 0, 0]),
    (shows(), told_shows((1, 1, 1), (2, 1, 2))),
    (kept(), [0]),
    (would(3, [1, 2]), told_entry(0, 1, [1, 2], [11])),
    (far([1, 2], [2, 3]), [2]),
    (release((2, [4]), (3, [1, 2])), [2, 0, 2, 2]),
    (entry(2), told_entry(0, 2, [4], [12, 13])),
    (kept(), told_kept((1, [1, 2], [11]), (2, [3], [12, 13]))),
    (doubt(2), [-6]),
    (put(3, [14]), [2, 1, 1, 2]),
    (doubt(3), [2, 0, 2, 2]),
    (together((3, [14], [15]), (2, [0], [0])), [1, 2, 1]),
    (shows(), told_shows((2, 0, 2), (3, 1, 1))),
    (undo(), [2, 0, 2, 2]),
    (undo(), [2, 1, 1, 2]),
    (entry(3), told_entry(1, None, [1, 2], [14])),
    (release(), [0, 0, 0, 3]),
    (kept(), told_kept((3, [1, 2], [14]), (1, [1, 2], [11]), (2, [3], [12, 13]))),
    (would(1, [1, 2]), told_entry(1, None, [1, 2], [11])),
    (would(100, [1]), [-1]),
    (far([], []), [0]),
    (shows(), [0]),
    (undo(), [2, 1, 1, 2]),
    (together((9, [], [])), [-2]),
    (release((1, [1, 2])), [1, 1, 0, 2]),
    (put(1, []), [-1]),
    (undo(), [2, 1, 1, 2]),
    (entry(1), [-2]),
]


class Form(unittest.TestCase):
    def test_just_the_numbers_of_one_call(self):
        self.assertEqual(answers([0, 0, 0]), [4, 0, 0, 0, 0])
        self.assertEqual(answers([0, 3, 7, 1, 5, 0]), [4, 1, 0, 0, 0])

    def test_several_calls_in_one_list(self):
        calls = [0, 7, 7, 1, 5, 3, 2, 6, 0, 0,
                 1, 4, 7, 2, 40, 41, 0,
                 4, 1, 7, 0,
                 4, 1, 3, 0,
                 4, 1, 9, 0,
                 2, 1, 7, 0,
                 3, 6, 1, 7, 2, 40, 41, 0, 0,
                 3, 1, 0, 0]
        given = [4, 2, 0, 0, 0,
                 4, 2, 1, 0, 0,
                 7, 1, 0, 1, 5, 2, 40, 41,
                 6, 0, 0, 2, 6, 0, 0,
                 1, -2,
                 4, 2, 0, 1, 0,
                 2, 1, 2,
                 1, 0]
        self.assertEqual(answers(calls), given)

    def test_the_calls_5_to_9_number_by_number(self):
        calls = [5, 0, 0, 6, 0, 0, 8, 0, 0, 9, 2, 0, 0, 0,
                 0, 4, 7, 2, 5, 6, 0,
                 1, 4, 7, 2, 40, 41, 0,
                 5, 0, 0,
                 7, 4, 8, 2, 5, 6, 0,
                 0, 0, 0,
                 6, 0, 0,
                 9, 5, 2, 5, 6, 1, 6, 0,
                 8, 0, 0]
        given = [1, 0, 1, 0, 1, -7, 1, 0,
                 4, 1, 0, 0, 0,
                 4, 1, 1, 0, 0,
                 4, 1, 7, 1, 2,
                 8, 0, 8, 2, 5, 6, 2, 40, 41,
                 4, 0, 0, 0, 1,
                 8, 1, 7, 2, 5, 6, 2, 40, 41,
                 1, 1,
                 4, 1, 1, 0, 0]
        self.assertEqual(answers(calls), given)

    def test_a_refusal_is_its_number_alone(self):
        self.assertEqual(answers(release((100, [1]))), [1, -1])
        self.assertEqual(answers(entry(0)), [1, -2])
        self.assertEqual(answers(release((1, [1])) + doubt(1)), [4, 1, 0, 0, 0, 1, -6])
        self.assertEqual(answers(would(100, [1]) + far([100], []) + undo()), [1, -1, 1, -1, 1, -7])

    def test_what_is_handed_in_stays_as_it_was(self):
        calls = joined([release((1, [2, 3]), (4, [5])), put(1, [6]), doubt(1), put(4, [7]),
                        together((4, [7], [8, 8]), (1, [], [])), release((1, [2, 4])), entry(1)])
        for line in (calls, joined([asked for asked, answer in THIRTY])):
            before = list(line)
            answers(line)
            self.assertEqual(line, before)

    def test_what_is_handed_in_is_not_changed_for_a_while_either(self):
        class Fixed(list):
            def refuse(self, *anything):
                raise AssertionError("the list that was handed in is changed")

            append = extend = insert = pop = remove = clear = sort = reverse = refuse
            __setitem__ = __delitem__ = __iadd__ = __imul__ = refuse

        calls = joined([asked for asked, answer in THIRTY])
        self.assertEqual(answers(Fixed(calls)), answers(calls))

    def test_what_is_given_back_is_a_list_of_its_own(self):
        calls = joined([release((1, [2, 3])), put(1, [6]), entry(1)])
        given = answers(calls)
        expected = list(given)
        given.clear()
        self.assertEqual(answers(calls), expected)

    def test_asking_twice_answers_the_same(self):
        calls = joined([release((1, [2, 3])), put(1, [6]), release((2, [2, 3])), entry(2), entry(1)])
        self.assertEqual(answers(calls), answers(calls))
        calls = joined([asked for asked, answer in THIRTY])
        self.assertEqual(answers(calls), answers(calls))

    def test_a_line_begins_empty_whatever_was_asked_before(self):
        ask(release((1, [2, 3])), put(1, [6]))
        self.assertEqual(ask(entry(1)), [[-2]])
        self.assertEqual(ask(undo(), shows(), kept(), would(2, [2, 3])), [[-7], [0], [0], [0, 0, 2, 2, 3, 0]])
        self.assertEqual(ask(release((1, [2, 3])), entry(1)), [[1, 0, 0, 0], [0, 0, 2, 2, 3, 0]])

    def test_numbers_are_int_never_bool(self):
        given = answers(joined([release((1, [2]), (2, [9])), put(1, [6]), entry(1), doubt(1), entry(1), entry(2),
                                together((1, [6], []), (2, [], [3])), entry(1), entry(2)]))
        self.assertIs(type(given), list)
        self.assertEqual({type(number) for number in given}, {int})
        given = answers(joined([asked for asked, answer in THIRTY]))
        self.assertIs(type(given), list)
        self.assertEqual({type(number) for number in given}, {int})

    def test_answers_takes_calls_alone(self):
        self.assertEqual(str(inspect.signature(catalogue.answers)), "(calls)")

    def test_thirty_calls(self):
        calls = [release((1, [1]))] + [put(1, [n]) for n in range(28)] + [entry(1)]
        self.assertEqual(ask(*calls), [[1, 0, 0, 0]] + [[1, 1, 0, 0]] * 28 + [[1, 0, 1, 1, 1, 27]])

    def test_thirty_calls_with_every_kind_among_them(self):
        calls = [asked for asked, answer in THIRTY]
        self.assertEqual((len(calls), {asked[0] for asked in calls}), (30, set(range(10))))
        self.assertEqual(ask(*calls), [answer for asked, answer in THIRTY])
        self.assertEqual(answers(joined(calls)), joined([text(answer) for asked, answer in THIRTY]))

    def test_the_longest_line(self):
        # 30 calls with 400 numbers each.
        many = call(0, joined([[key, 1, 1] for key in range(132)]) + [1, 2, 3, 4])
        self.assertEqual(len(many), 403)
        self.assertEqual(ask(*[many] * 30), [[-1]] * 30)

    def test_the_highest_numbers_are_refused_as_told(self):
        top = 4294967295
        self.assertEqual(ask(release((top, [1])), release((1, [top])), put(top, [1]), put(1, [top]), doubt(top),
                             entry(top), together((top, [], [])), together((1, [top], [])), call(3, [top])),
                         [[-1], [-1], [-2], [-1], [-2], [-2], [-2], [-1], [-1]])
        self.assertEqual(ask(would(top, [1]), would(1, [top]), far([top], []), far([], [top])), [[-1]] * 4)

    def test_the_longest_release_and_texts_are_refused(self):
        many = release(*[(0, [1])] * 133)
        self.assertEqual(ask(many, put(1, [0] * 99), together(*[(0, [], [])] * 133), release((1, [0] * 398))),
                         [[-1], [-1], [-1], [-1]])


if __name__ == "__main__":
    unittest.main()
