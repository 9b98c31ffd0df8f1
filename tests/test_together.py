"""Promise 3, as far as it speaks of together."""

import unittest

from line import BEFORE, TOLD, ask, call, check_refused, doubt, entry, last, put, release, together, told_entry
from releasesdesk.catalogue import Catalogue, Entry, answer_together


class WhatBecomes(unittest.TestCase):
    def check(self, ours, began, theirs, what, sure, translation):
        calls = [release((1, [5]))] + ([put(1, ours)] if ours else [])
        self.assertEqual(ask(*calls, together((1, began, theirs)), entry(1))[-2:],
                         [[1 if what == 2 else 0, what], told_entry(sure, None, [5], translation)])

    def test_both_are_the_same(self):
        self.check([7, 8], [1], [7, 8], 0, 1, [7, 8])
        self.check([7, 8], [7, 8], [7, 8], 0, 1, [7, 8])
        self.check([7, 8], [], [7, 8], 0, 1, [7, 8])
        self.check([], [], [], 0, 0, [])
        self.check([], [1], [], 0, 0, [])

    def test_ours_was_changed_alone(self):
        self.check([7], [1], [1], 1, 1, [7])
        self.check([7], [], [], 1, 1, [7])
        self.check([], [1], [1], 1, 0, [])

    def test_theirs_was_changed_alone(self):
        self.check([7], [7], [8, 9], 2, 1, [8, 9])
        self.check([], [], [8], 2, 1, [8])
        self.check([7], [7], [], 2, 0, [])

    def test_both_were_changed(self):
        self.check([7], [1], [8], 3, 1, [7])
        self.check([7], [], [8], 3, 1, [7])
        self.check([7], [1], [], 3, 1, [7])
        self.check([], [1], [8], 3, 0, [])

    def test_the_order_of_words_counts(self):
        self.check([7, 8], [7, 8], [8, 7], 2, 1, [8, 7])
        self.check([7, 8], [8, 7], [8, 7], 1, 1, [7, 8])

    def test_the_same_leaves_what_is_unsure_unsure(self):
        self.assertEqual(ask(release((1, [1])), put(1, [11]), doubt(1), together((1, [3], [11])), entry(1))[3:],
                         [[0, 0], told_entry(0, 1, [1], [11])])
        self.assertEqual(ask(release((1, [1])), put(1, [11]), release((4, [1])), together((4, [11], [11])),
                             entry(4))[3:], [[0, 0], told_entry(0, 1, [1], [11])])

    def test_ours_stands_unsure_where_it_was(self):
        for began, theirs, what in (([3], [3], 1), ([3], [4], 3)):
            self.assertEqual(ask(release((1, [1])), put(1, [11]), release((4, [1])), together((4, began, theirs)),
                                 entry(4))[3:], [[0, what], told_entry(0, 1, [1], [11])])

    def test_what_is_taken_is_sure_and_of_no_other_key(self):
        guessed = [release((1, [1])), put(1, [11]), release((4, [1]))]
        self.assertEqual(ask(*guessed, together((4, [11], [12])), entry(4), put(4, [12]))[3:],
                         [[1, 2], told_entry(1, None, [1], [12]), [1, 1, 0, 1]])

    def test_what_is_taken_without_words_is_unsure_and_of_no_other_key(self):
        guessed = [release((1, [1])), put(1, [11]), release((4, [1]))]
        self.assertEqual(ask(*guessed, together((4, [11], [])), entry(4), doubt(4), release((4, [1])))[3:],
                         [[1, 2], told_entry(0, None, [1], []), [-6], [1, 0, 0, 1]])

    def test_what_is_taken_is_drawn_from_in_a_release(self):
        self.assertEqual(ask(release((1, [1])), together((1, [], [11])), release((4, [1])), entry(4))[2:],
                         [[1, 0, 1, 1], told_entry(0, 1, [1], [11])])

    def test_several_keys_in_their_order(self):
        calls = [release((1, [1]), (2, [2]), (3, [3]), (4, [4]), (5, [5])), put(1, [11]), put(2, [12]), put(3, [13]),
                 put(4, [14]),
                 together((5, [], [25]), (3, [0], [23]), (1, [1], [11]), (4, [14], [24]), (2, [0], [0])),
                 entry(1), entry(2), entry(3), entry(4), entry(5), put(1, [11])]
        self.assertEqual(ask(*calls)[5:], [[2, 2, 3, 0, 2, 1], told_entry(1, None, [1], [11]),
                                           told_entry(1, None, [2], [12]), told_entry(1, None, [3], [13]),
                                           told_entry(1, None, [4], [24]), told_entry(1, None, [5], [25]),
                                           [5, 5, 0, 0]])

    def test_no_keys(self):
        self.assertEqual(ask(*BEFORE, together(), release((1, [9])))[4:], [[0], [1, 1, 0, 1]])
        self.assertEqual(last(together()), [0])


class WhatIsKept(unittest.TestCase):
    def test_it_keeps_nothing_more(self):
        self.assertEqual(ask(release((1, [1])), put(1, [11]), together((1, [11], [])), release(),
                             release((1, [1])), entry(1))[2:],
                         [[1, 2], [0, 0, 0, 0], [1, 0, 0, 0], told_entry(0, None, [1], [])])
        self.assertEqual(ask(release((1, [1])), put(1, [11]), together((1, [11], [12])), release(),
                             release((1, [1])), entry(1))[2:],
                         [[1, 2], [0, 0, 0, 1], [1, 1, 0, 0], told_entry(1, None, [1], [12])])

    def test_it_leaves_what_is_kept_of_another_text_or_key(self):
        calls = [release((1, [5]), (2, [6])), put(1, [11]), put(2, [22]), release((1, [6])),
                 together((1, [22], [5])), release((1, [5])), entry(1), release((2, [6])), entry(2)]
        self.assertEqual(ask(*calls)[3:], [[1, 0, 1, 2], [1, 2], [1, 1, 0, 2], told_entry(1, None, [5], [11]),
                                           [1, 1, 0, 2], told_entry(1, None, [6], [22])])

    def stands_behind(self, theirs):
        # No line of calls leads here: a release never keeps what an entry has the key and text of.
        catalogue = Catalogue()
        catalogue.entries = [Entry(1, [5], [], False, None), Entry(2, [6], [], False, None)]
        catalogue.kept = [Entry(2, [5], [1], True, None), Entry(1, [5], [2], True, None),
                          Entry(2, [6], [3], True, None)]
        answer_together(catalogue, [1, 1] + theirs)
        return [(one.key, one.text) for one in catalogue.kept]

    def test_what_is_kept_and_shown_again_goes(self):
        self.assertEqual(self.stands_behind([0, 1, 9]), [(2, [5]), (2, [6])])

    def test_what_is_kept_and_not_shown_again_stays(self):
        self.assertEqual(self.stands_behind([1, 7, 1, 9]), [(2, [5]), (1, [5]), (2, [6])])
        self.assertEqual(self.stands_behind([1, 7, 0]), [(2, [5]), (1, [5]), (2, [6])])


class Refusals(unittest.TestCase):
    def test_twelve_keys_and_thirteen(self):
        keys = [(key, [50 + key]) for key in range(12)]
        told = [(key, [], [key]) for key in range(13)]
        self.assertEqual(ask(release(*keys), together(*told[:12]), release(*keys))[1:],
                         [[12] + [2] * 12, [12, 12, 0, 0]])
        # 12 is no key of an entry, but what is told first is answered.
        check_refused(self, [release(*keys)], together(*told), -1, keys)

    def test_many_is_refused_as_told(self):
        self.assertEqual(ask(call(3, [13] + [0, 0, 0] * 13), call(3, [100] + [0, 0, 0] * 100)), [[-1], [-1]])

    def test_a_key_twice(self):
        check_refused(self, BEFORE, together((1, [13], [14]), (1, [13], [14])), -1, TOLD)
        check_refused(self, BEFORE, together((1, [13], [14]), (2, [], [5]), (1, [14], [15])), -1, TOLD)

    def test_texts_of_0_1_8_and_9_words(self):
        eight = [1, 2, 3, 4, 5, 6, 7, 8]
        for words in ([], [1], eight):
            with self.subTest(words=words):
                self.assertEqual(last(*BEFORE, together((1, [13], words))), [1, 2])
                self.assertEqual(last(*BEFORE, together((1, words, [13]))), [0, 0])
        for row in ((1, [13], eight + [9]), (1, eight + [9], [13]), (1, eight + [9], eight + [9])):
            with self.subTest(row=row):
                check_refused(self, BEFORE, together(row), -1, TOLD)
                check_refused(self, BEFORE, together((2, [], [5]), row), -1, TOLD)

    def test_a_word_99_and_100(self):
        self.assertEqual(ask(*BEFORE, together((1, [13], [99])), entry(1))[4:],
                         [[1, 2], told_entry(1, None, [9], [99])])
        self.assertEqual(last(*BEFORE, together((1, [99], [99]))), [0, 1])
        for row in ((1, [13], [100]), (1, [100], [13]), (1, [13], [1, 100, 2])):
            with self.subTest(row=row):
                check_refused(self, BEFORE, together(row), -1, TOLD)
                check_refused(self, BEFORE, together((2, [], [5]), row), -1, TOLD)

    def test_no_entry_with_one_of_the_keys(self):
        for key in (0, 3, 99, 100):
            with self.subTest(key=key):
                check_refused(self, BEFORE, together((key, [], [1])), -2, TOLD)
                check_refused(self, BEFORE, together((1, [13], [14]), (key, [], [1])), -2, TOLD)
                check_refused(self, BEFORE, together((key, [], [1]), (1, [13], [14])), -2, TOLD)
        self.assertEqual(last(together((1, [], []))), [-2])

    def test_the_refusal_told_first(self):
        for wrong in ([(3, [], []), (3, [], [])], [(3, [], [1] * 9)], [(3, [100], [])], [(3, [], []), (1, [100], [])]):
            with self.subTest(wrong=wrong):
                check_refused(self, BEFORE, together(*wrong), -1, TOLD)


if __name__ == "__main__":
    unittest.main()
