"""Promise 1: release, what becomes of each key in it, what is kept behind it, its refusals."""

import unittest

from line import ask, check_refused, doubt, entry, last, much_kept, put, release, rows, told_entry
from releasesdesk.catalogue import Catalogue, answer_put, answer_release


class WhatBecomesOfAKey(unittest.TestCase):
    def test_without_a_translation(self):
        self.assertEqual(ask(release((5, [1, 2]), (0, [3])), entry(5), entry(0)),
                         [[2, 0, 0, 0], told_entry(0, None, [1, 2], []), told_entry(0, None, [3], [])])

    def test_no_keys_at_all(self):
        self.assertEqual(ask(release(), release((1, [1])), release(), entry(1)),
                         [[0, 0, 0, 0], [1, 0, 0, 0], [0, 0, 0, 0], [-2]])

    def test_a_sure_one_stays_as_it_is(self):
        self.assertEqual(ask(release((1, [1, 2])), put(1, [9]), release((2, [8, 8]), (1, [1, 2])), entry(1)),
                         [[1, 0, 0, 0], [1, 1, 0, 0], [2, 1, 0, 0], told_entry(1, None, [1, 2], [9])])

    def test_an_unsure_one_stays_as_it_is(self):
        # A nearer text is known by then, but what stands there is not made anew.
        calls = [release((1, [1, 2, 3, 4])), put(1, [9]), release((1, [1, 2, 3, 4]), (7, [1, 2, 5, 6])),
                 release((1, [1, 2, 3, 4]), (7, [1, 2, 5, 6]), (0, [1, 2, 5, 7])), put(0, [8]),
                 release((7, [1, 2, 5, 6])), entry(7)]
        self.assertEqual(last(*calls), told_entry(0, 1, [1, 2, 5, 6], [9]))

    def test_a_doubted_one_stays_as_it_is(self):
        self.assertEqual(ask(release((1, [1])), put(1, [9]), doubt(1), release((1, [1])), entry(1))[3:],
                         [[1, 0, 1, 0], told_entry(0, 1, [1], [9])])

    def test_one_without_a_translation_stays_so(self):
        # Its text gets known under another key, too late for the entry that stands there.
        self.assertEqual(last(release((1, [1]), (2, [1])), put(1, [9]), release((1, [1]), (2, [1])), entry(2)),
                         told_entry(0, None, [1], []))

    def test_just_that_key_and_text_are_known(self):
        calls = [release((1, [1, 2])), put(1, [9, 9]), release((2, [50])), release((1, [1, 2])), entry(1)]
        self.assertEqual(ask(*calls)[2:], [[1, 0, 0, 1], [1, 1, 0, 0], told_entry(1, None, [1, 2], [9, 9])])

    def test_just_that_key_and_text_come_before_that_text_with_a_lower_key(self):
        calls = [release((1, [5]), (2, [5])), put(1, [8]), put(2, [9]), release((1, [5])), release((2, [5])), entry(2)]
        self.assertEqual(last(*calls), told_entry(1, None, [5], [9]))

    def test_just_that_text_with_the_lowest_key(self):
        calls = [release((6, [5, 5]), (3, [5, 5]), (4, [5, 5])), put(6, [66]), put(3, [33]), put(4, [44]),
                 release((9, [5, 5])), entry(9)]
        self.assertEqual(ask(*calls)[4:], [[1, 0, 1, 3], told_entry(0, 3, [5, 5], [33])])

    def test_just_that_text_of_a_kept_one_with_a_lower_key_than_an_entry(self):
        calls = [release((1, [5])), put(1, [11]), release((4, [5])), put(4, [44]), release((4, [5]), (9, [5])),
                 entry(9)]
        self.assertEqual(last(*calls), told_entry(0, 1, [5], [11]))

    def test_just_that_text_comes_before_that_key(self):
        calls = [release((1, [1, 2, 3]), (2, [7])), put(1, [11]), put(2, [22]), release((1, [7])), entry(1)]
        self.assertEqual(last(*calls), told_entry(0, 2, [7], [22]))

    def test_that_key_however_far_its_text_is(self):
        calls = [release((1, [1, 2, 3])), put(1, [11]), release((1, [50, 51])), entry(1)]
        self.assertEqual(ask(*calls)[2:], [[1, 0, 1, 1], told_entry(0, 1, [50, 51], [11])])

    def test_that_key_comes_before_a_near_text(self):
        calls = [release((1, [1, 2, 3]), (0, [50, 51, 52])), put(1, [11]), put(0, [10]),
                 release((1, [50, 51, 53])), entry(1)]
        self.assertEqual(last(*calls), told_entry(0, 1, [50, 51, 53], [11]))

    def test_that_key_the_first_is_the_entry(self):
        calls = [release((1, [1])), put(1, [11]), release((1, [2])), put(1, [22]), release((1, [3])), entry(1)]
        self.assertEqual(ask(*calls)[4:], [[1, 0, 1, 2], told_entry(0, 1, [3], [22])])

    def test_that_key_the_first_of_what_is_kept(self):
        calls = [release((1, [1])), put(1, [11]), release((1, [2])), put(1, [22]), release(), release((1, [3])),
                 entry(1)]
        self.assertEqual(last(*calls), told_entry(0, 1, [3], [22]))

    def test_the_nearest_text(self):
        calls = [release((1, [1, 2, 3, 4]), (2, [1, 2, 3, 9])), put(1, [11]), put(2, [22]),
                 release((5, [1, 2, 8, 9])), entry(5)]
        self.assertEqual(ask(*calls)[3:], [[1, 0, 1, 2], told_entry(0, 2, [1, 2, 8, 9], [22])])

    def test_of_as_near_ones_that_with_the_lowest_key(self):
        calls = [release((6, [1, 2, 6]), (3, [1, 2, 3]), (4, [1, 2, 4])), put(6, [66]), put(3, [33]), put(4, [44]),
                 release((9, [1, 2, 9])), entry(9)]
        self.assertEqual(last(*calls), told_entry(0, 3, [1, 2, 9], [33]))

    def test_of_these_the_first_is_the_entry(self):
        calls = [release((1, [1, 2])), put(1, [11]), release((1, [1, 3])), put(1, [12]), release((2, [1, 4])),
                 entry(2)]
        self.assertEqual(last(*calls), told_entry(0, 1, [1, 4], [12]))

    def test_of_these_the_first_of_what_is_kept(self):
        calls = [release((1, [1, 2])), put(1, [11]), release((1, [1, 3])), put(1, [12]), release(),
                 release((2, [1, 4])), entry(2)]
        self.assertEqual(last(*calls), told_entry(0, 1, [1, 4], [12]))

    def test_at_most_half_the_longer_ones_words(self):
        cases = [
            ([1], [2], False),
            ([1, 2], [1, 3], True),
            ([1, 2], [3, 4], False),
            ([1], [1, 2], True),
            ([1, 2], [2], True),
            ([1, 2, 3], [1, 2, 4], True),
            ([1, 2, 3], [1, 4, 5], False),
            ([1], [1, 2, 3], False),
            ([1, 2], [1, 2, 3, 4], True),
            ([1, 2, 3, 4], [3, 4], True),
            ([1, 2, 3, 4, 5, 6, 7, 8], [1, 2, 3, 4, 9, 9, 9, 9], True),
            ([1, 2, 3, 4, 5, 6, 7, 8], [1, 2, 3, 9, 9, 9, 9, 9], False),
            ([1, 2, 3, 4, 5, 6, 7, 8], [5, 6, 7, 8], True),
            ([1, 2, 3, 4, 5, 6, 7, 8], [6, 7, 8], False),
            ([1, 2, 3, 4, 5, 6, 7, 8], [2, 3, 4, 5, 6, 7, 8, 1], True),
            ([1, 2, 3], [3, 2, 1], False),
        ]
        for known, told, near in cases:
            with self.subTest(known=known, told=told):
                expected = told_entry(0, 1, told, [11]) if near else told_entry(0, None, told, [])
                self.assertEqual(last(release((1, known)), put(1, [11]), release((2, told)), entry(2)), expected)

    def test_what_isnt_sure_is_not_drawn_from(self):
        doubted = [release((1, [1, 2])), put(1, [11]), doubt(1)]
        for told in ((2, [1, 2]), (1, [8]), (2, [1, 3])):
            with self.subTest(told=told):
                self.assertEqual(ask(*doubted, release(told), entry(told[0]))[3:],
                                 [[1, 0, 0, 0], told_entry(0, None, told[1], [])])

    def test_what_is_made_in_a_release_is_not_drawn_from_in_it(self):
        # The text of 3 is near to that of 2, but known is only what was known ahead of the release.
        calls = [release((1, [1, 2, 3, 4])), put(1, [11]), release((2, [1, 2, 5, 6]), (3, [7, 8, 5, 6])), entry(3)]
        self.assertEqual(ask(*calls)[2:], [[2, 0, 1, 1], told_entry(0, None, [7, 8, 5, 6], [])])

    def test_what_comes_back_in_a_release_is_drawn_from_in_it(self):
        calls = [release((1, [1, 2])), put(1, [11]), release(), release((2, [1, 2]), (1, [1, 2])), entry(2), entry(1)]
        self.assertEqual(ask(*calls)[3:],
                         [[2, 1, 1, 0], told_entry(0, 1, [1, 2], [11]), told_entry(1, None, [1, 2], [11])])

    def test_an_unsure_translation_becomes_sure_when_it_comes_back_to_its_text(self):
        calls = [release((1, [1])), put(1, [11]), release((1, [2])), entry(1), release((1, [1])), entry(1)]
        self.assertEqual(ask(*calls)[2:], [[1, 0, 1, 1], told_entry(0, 1, [2], [11]),
                                           [1, 1, 0, 0], told_entry(1, None, [1], [11])])


class WhatIsKept(unittest.TestCase):
    def test_sure_ones_that_arent_shown(self):
        calls = [release((1, [1]), (2, [2]), (3, [3])), put(1, [11]), put(2, [22]), release((2, [2])),
                 release((1, [1]), (2, [2]), (3, [3])), entry(1), entry(2), entry(3)]
        self.assertEqual(ask(*calls)[3:], [[1, 1, 0, 1], [3, 2, 0, 0], told_entry(1, None, [1], [11]),
                                           told_entry(1, None, [2], [22]), told_entry(0, None, [3], [])])

    def test_a_doubted_one_is_not_kept(self):
        calls = [release((1, [1])), put(1, [11]), doubt(1), release(), release((1, [1])), entry(1)]
        self.assertEqual(ask(*calls)[3:], [[0, 0, 0, 0], [1, 0, 0, 0], told_entry(0, None, [1], [])])

    def test_an_unsure_one_is_not_kept_but_what_it_was_made_of(self):
        calls = [release((1, [1])), put(1, [11]), release((1, [2])), release(), release((1, [2])), entry(1)]
        self.assertEqual(ask(*calls)[3:], [[0, 0, 0, 1], [1, 0, 1, 1], told_entry(0, 1, [2], [11])])

    def test_several_texts_of_one_key(self):
        calls = [release((1, [1])), put(1, [11]), release((1, [2])), put(1, [12]), release((1, [3])), put(1, [13]),
                 release(), release((1, [2])), entry(1), release((1, [1])), entry(1), release((1, [3])), entry(1)]
        self.assertEqual(ask(*calls)[6:], [[0, 0, 0, 3], [1, 1, 0, 2], told_entry(1, None, [2], [12]),
                                           [1, 1, 0, 2], told_entry(1, None, [1], [11]),
                                           [1, 1, 0, 2], told_entry(1, None, [3], [13])])

    def test_in_order_the_entries_as_told_then_what_was_kept(self):
        catalogue = Catalogue()
        answer_release(catalogue, [5, 1, 50, 2, 1, 20, 9, 1, 90])
        for key in (2, 5, 9):
            answer_put(catalogue, [key, 1, key])
        answer_release(catalogue, [9, 1, 90, 7, 1, 70, 1, 1, 10])
        self.assertEqual([(one.key, one.text, one.translation) for one in catalogue.kept],
                         [(5, [50], [5]), (2, [20], [2])])
        for key in (1, 7):
            answer_put(catalogue, [key, 1, key])
        answer_release(catalogue, [2, 1, 20, 7, 1, 71])
        self.assertEqual([(one.key, one.text, one.translation) for one in catalogue.kept],
                         [(9, [90], [9]), (7, [70], [7]), (1, [10], [1]), (5, [50], [5])])
        self.assertEqual([one.key for one in catalogue.entries], [2, 7])

    def test_a_release_taken_back_leaves_what_was_sure(self):
        first = [(1, [1, 2, 3]), (2, [4, 5]), (3, [6]), (4, [7, 8])]
        before = [release(*first), put(1, [11]), put(2, [12]), put(4, [14]), doubt(4)]
        looks = [entry(key) for key in (1, 2)]
        for between in ([], [(1, [4, 5]), (2, [1, 2, 3])], [(1, [1, 2, 4]), (9, [6])], [(2, [4, 5])]):
            with self.subTest(between=between):
                self.assertEqual(ask(*before, release(*between), release(*first), *looks)[-2:],
                                 ask(*before, *looks)[-2:])


class Refusals(unittest.TestCase):
    told = [(1, [1, 2]), (2, [3]), (1, [9]), (4, [1, 5])]
    before = [release((1, [1, 2]), (2, [3])), put(1, [11]), put(2, [12]), release((1, [9]), (2, [3])), put(1, [13])]

    def refused(self, *keys):
        check_refused(self, self.before, release(*keys), -1, self.told)

    def test_twelve_keys_and_thirteen(self):
        keys = [(key, [50 + key]) for key in range(13)]
        # 1 and 2 are made of what is known of these keys.
        self.assertEqual(last(*self.before, release(*keys[:12])), [12, 0, 2, 3])
        self.refused(*keys)

    def test_a_key_99_and_100(self):
        self.assertEqual(ask(release((99, [1])), entry(99)), [[1, 0, 0, 0], told_entry(0, None, [1], [])])
        self.refused((100, [1]))
        self.refused((1, [1, 2]), (100, [1]))
        self.refused((100, [1]), (1, [1, 2]))

    def test_a_key_0(self):
        self.assertEqual(ask(release((0, [0])), put(0, [0]), release((0, [1])), entry(0))[2:],
                         [[1, 0, 1, 1], told_entry(0, 0, [1], [0])])

    def test_a_key_twice(self):
        self.refused((1, [1]), (1, [1]))
        self.refused((1, [1]), (2, [2]), (1, [3]))
        self.assertEqual(last(release((1, [5]), (2, [5]))), [2, 0, 0, 0])

    def test_texts_of_0_1_8_and_9_words(self):
        self.refused((1, []))
        self.refused((1, [1]), (2, []))
        self.assertEqual(ask(release((1, [7])), entry(1))[1], told_entry(0, None, [7], []))
        eight = [1, 2, 3, 4, 5, 6, 7, 8]
        self.assertEqual(ask(release((1, eight)), entry(1))[1], told_entry(0, None, eight, []))
        self.refused((1, eight + [9]))
        self.refused((2, [3]), (1, eight + [9]))

    def test_a_word_99_and_100(self):
        self.assertEqual(ask(release((1, [99])), entry(1))[1], told_entry(0, None, [99], []))
        self.refused((1, [100]))
        self.refused((2, [3]), (1, [1, 100, 2]))

    def test_thirty_kept_and_thirty_one(self):
        calls, told = much_kept(6)
        self.assertEqual(last(*calls, release()), [0, 0, 0, 30])
        calls, told = much_kept(7)
        check_refused(self, calls, release(), -5, told)
        check_refused(self, calls, release((50, [1])), -5, told)

    def test_what_is_shown_counts_for_nothing_kept(self):
        calls, told = much_kept(7)
        self.assertEqual(last(*calls, release(told[24])), [1, 1, 0, 30])
        self.assertEqual(last(*calls, release(told[0])), [1, 1, 0, 30])
        self.assertEqual(last(*calls, release(*told[24:])), [7, 7, 0, 24])

    def test_a_release_may_follow_one_that_kept_thirty(self):
        calls, told = much_kept(6)
        self.assertEqual(ask(*calls, release(), release(told[3]), put(3, [4]), release(), release((60, [99])),
                             put(60, [5]), release(), release((60, [99])))[6:],
                         [[0, 0, 0, 30], [1, 1, 0, 29], [1, 1, 0, 29], [0, 0, 0, 30], [1, 0, 0, 30],
                          [1, 1, 0, 30], [-5], [1, 1, 0, 30]])

    def test_the_refusal_told_first(self):
        calls, told = much_kept(7)
        for wrong in ([(100, [1])], [(1, [])], [(1, [1]), (1, [2])], [(1, [100])], [(1, [1] * 9)], rows(range(13), 50)):
            with self.subTest(wrong=wrong):
                self.assertEqual(last(*calls, release(*wrong)), [-1])


if __name__ == "__main__":
    unittest.main()
