"""Promise 2, as far as it speaks of would."""

import unittest

from line import (BEFORE, EIGHT, TOLD, ask, check_changes_nothing, check_refused, doubt, entry, last, much_kept, put,
                  release, together, told_entry, undo, would)


class WhatItWouldBe(unittest.TestCase):
    def check(self, before, key, words, sure, source, translation):
        expected = told_entry(sure, source, words, translation)
        self.assertEqual(last(*before, release((key, words)), entry(key)), expected)
        check_changes_nothing(self, before, would(key, words), expected, [(key, words)])

    def test_just_its_numbers(self):
        self.assertEqual(last(release((4, [1, 2])), put(4, [7]), would(5, [1, 2])), [0, 5, 2, 1, 2, 1, 7])

    def test_without_a_translation(self):
        self.check([], 1, [1, 2], 0, None, [])
        self.check([release((1, [1]))], 2, [1], 0, None, [])
        self.check(BEFORE, 7, [50, 51], 0, None, [])

    def test_a_sure_entry_stays_as_it_is(self):
        self.check(BEFORE, 1, [9], 1, None, [13])

    def test_an_unsure_entry_stays_as_it_is(self):
        # A nearer text is known by then, but what stands there is not made anew.
        calls = [release((1, [1, 2, 3, 4])), put(1, [9]), release((7, [1, 2, 5, 6]), (0, [1, 2, 5, 7])), put(0, [8])]
        self.check(calls, 7, [1, 2, 5, 6], 0, 1, [9])

    def test_a_doubted_entry_stays_as_it_is(self):
        self.check(BEFORE + [doubt(1)], 1, [9], 0, 1, [13])

    def test_an_entry_without_a_translation_stays_so(self):
        self.check([release((1, [1]), (2, [1])), put(1, [9])], 2, [1], 0, None, [])
        self.check([release((1, [1]), (2, [1])), put(1, [9]), put(2, [8]), together((2, [8], []))],
                   2, [1], 0, None, [])

    def test_just_that_key_and_text_are_known(self):
        self.check(BEFORE, 1, [1, 2], 1, None, [11])
        # That text is known of a lower key, too.
        calls = [release((1, [5]), (2, [5])), put(1, [8]), put(2, [9]), release((1, [5]))]
        self.check(calls, 2, [5], 1, None, [9])

    def test_just_that_text_with_the_lowest_key(self):
        calls = [release((6, [5, 5]), (3, [5, 5]), (4, [5, 5])), put(6, [66]), put(3, [33]), put(4, [44])]
        self.check(calls, 9, [5, 5], 0, 3, [33])
        # That key is known, too, of another text.
        self.check(calls + [release((6, [5, 5]), (4, [7])), put(4, [77])], 4, [5, 5], 1, None, [44])
        self.check(calls + [release((6, [5, 5]), (9, [7])), put(9, [77])], 9, [5, 5], 0, 3, [33])

    def test_that_key_the_first(self):
        calls = [release((1, [1])), put(1, [11]), release((1, [2])), put(1, [22])]
        self.check(calls, 1, [3, 4], 0, 1, [22])
        self.check(calls + [release()], 1, [3, 4], 0, 1, [22])
        # A near text of another key comes behind it.
        self.check(calls + [release((0, [3, 5])), put(0, [10])], 1, [3, 4], 0, 1, [22])

    def test_the_nearest_text(self):
        calls = [release((1, [1, 2, 3, 4]), (2, [1, 2, 3, 9])), put(1, [11]), put(2, [22])]
        self.check(calls, 5, [1, 2, 8, 9], 0, 2, [22])

    def test_of_as_near_ones_that_with_the_lowest_key(self):
        calls = [release((6, [1, 2, 6]), (3, [1, 2, 3]), (4, [1, 2, 4])), put(6, [66]), put(3, [33]), put(4, [44])]
        self.check(calls, 9, [1, 2, 9], 0, 3, [33])

    def test_of_these_the_first(self):
        calls = [release((1, [1, 2])), put(1, [11]), release((1, [1, 3])), put(1, [12])]
        self.check(calls, 2, [1, 4], 0, 1, [12])
        self.check(calls + [release()], 2, [1, 4], 0, 1, [12])

    def test_at_most_half_the_longer_ones_words(self):
        cases = [([1], [2], False), ([1, 2], [1, 3], True), ([1], [1, 2], True), ([1], [1, 2, 3], False),
                 ([1, 2, 3], [1, 2, 4], True), ([1, 2, 3], [1, 4, 5], False), (EIGHT, EIGHT[:4], True),
                 (EIGHT, EIGHT[:3], False), (EIGHT[:4], EIGHT, True), (EIGHT[:3], EIGHT, False),
                 (EIGHT, [1, 2, 3, 4, 9, 9, 9, 9], True), (EIGHT, [1, 2, 3, 9, 9, 9, 9, 9], False)]
        for known, words, near in cases:
            with self.subTest(known=known, words=words):
                before = [release((1, known)), put(1, [11])]
                self.check(before, 2, words, 0, 1 if near else None, [11] if near else [])

    def test_what_isnt_sure_is_not_drawn_from(self):
        doubted = [release((1, [1, 2])), put(1, [11]), doubt(1)]
        for key, words in ((2, [1, 2]), (1, [8]), (2, [1, 3])):
            with self.subTest(key=key, words=words):
                self.check(doubted, key, words, 0, None, [])

    def test_behind_an_undo(self):
        self.check(BEFORE + [undo()], 1, [9], 0, 1, [11])
        self.check(BEFORE + [undo(), undo()], 1, [9], 0, 1, [11])
        self.check(BEFORE + [undo()] * 3, 1, [9], 0, None, [])

    def test_a_release_that_would_be_refused_for_what_it_keeps(self):
        # would tells of one key; it's refused for its text and key alone.
        calls, told = much_kept(7)
        self.assertEqual(ask(*calls, release((50, [77])), would(50, [77]))[6:],
                         [[-5], told_entry(0, None, [77], [])])


class Refusals(unittest.TestCase):
    def refused(self, key, words):
        check_refused(self, BEFORE, would(key, words), -1, TOLD)

    def test_texts_of_0_1_8_and_9_words(self):
        self.refused(1, [])
        self.refused(3, [])
        self.assertEqual(last(*BEFORE, would(3, [7])), told_entry(0, None, [7], []))
        self.assertEqual(last(*BEFORE, would(3, EIGHT)), told_entry(0, None, EIGHT, []))
        self.refused(1, EIGHT + [9])
        self.refused(3, EIGHT + [9])
        self.refused(3, [0] * 99)

    def test_a_word_99_and_100(self):
        self.assertEqual(last(*BEFORE, would(3, [0, 99])), told_entry(0, None, [0, 99], []))
        self.refused(3, [100])
        self.refused(1, [1, 100, 2])
        self.refused(1, [4294967295])

    def test_a_key_99_and_100(self):
        self.assertEqual(last(*BEFORE, would(99, [9])), told_entry(0, 1, [9], [13]))
        self.assertEqual(last(*BEFORE, would(0, [9])), told_entry(0, 1, [9], [13]))
        self.refused(100, [9])
        self.refused(4294967295, [9])
        self.refused(100, [])


if __name__ == "__main__":
    unittest.main()
