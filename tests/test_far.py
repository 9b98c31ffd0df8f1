"""Promise 3, as far as it speaks of far."""

import unittest

from line import BEFORE, EIGHT, TOLD, ask, call, check_changes_nothing, check_refused, far, last


class HowFar(unittest.TestCase):
    def check(self, one, other, steps):
        self.assertEqual(ask(far(one, other), far(other, one)), [[steps], [steps]], (one, other))

    def test_without_words(self):
        self.check([], [], 0)
        self.check([], [0], 1)
        self.check([], EIGHT, 8)

    def test_the_same(self):
        for words in ([0], [99], [5, 5], EIGHT):
            self.check(words, list(words), 0)

    def test_unlike(self):
        self.check([1], [2], 1)
        self.check([1, 2, 3], [4, 5, 6], 3)
        self.check([1], [2, 3, 4], 3)
        self.check(EIGHT, [11, 12, 13, 14, 15, 16, 17, 18], 8)

    def test_words_exchanged_for_others(self):
        self.check([1, 2, 3], [9, 2, 3], 1)
        self.check([1, 2, 3], [1, 9, 3], 1)
        self.check([1, 2, 3], [1, 2, 9], 1)
        self.check([1, 2, 3, 4], [9, 2, 3, 9], 2)

    def test_words_taken_out_or_put_in(self):
        self.check([1, 2, 3], [2, 3], 1)
        self.check([1, 2, 3], [1, 3], 1)
        self.check([1, 2, 3], [1, 2], 1)
        self.check(EIGHT, [2, 4, 6, 8], 4)
        self.check([1, 1, 1], [1], 2)

    def test_several_changes(self):
        self.check([1, 2, 3, 4], [2, 3, 9], 2)
        self.check([1, 2, 3], [4, 1, 2], 2)
        self.check(EIGHT, [8, 1, 2, 3, 4, 5, 6, 7], 2)
        self.check(EIGHT, [9, 2, 3, 4, 6, 7, 8, 1], 3)
        self.check([11, 9, 20, 20, 5, 14], [19, 9, 20, 20, 9, 14, 7], 3)

    def test_two_words_that_change_places_are_two_changes(self):
        self.check([1, 2], [2, 1], 2)
        self.check([1, 2, 3, 4], [2, 1, 4, 3], 3)

    def test_it_is_answered_alone(self):
        self.assertEqual(ask(call(9, [0, 0]), call(9, [2, 7, 8, 1, 8])), [[0], [1]])

    def test_changes_nothing(self):
        check_changes_nothing(self, BEFORE, far([1, 2], [9]), [2], TOLD)


class Refusals(unittest.TestCase):
    def refused(self, one, other):
        check_refused(self, BEFORE, far(one, other), -1, TOLD)

    def test_eight_words_and_nine(self):
        self.assertEqual(last(far(EIGHT, EIGHT[:7])), [1])
        self.assertEqual(last(far(EIGHT[:7], EIGHT)), [1])
        self.refused(EIGHT + [9], EIGHT)
        self.refused(EIGHT, EIGHT + [9])
        self.refused(EIGHT + [9], EIGHT + [9])
        self.refused(EIGHT + [9], [])
        self.refused([], EIGHT + [9])

    def test_the_most_words(self):
        self.assertEqual(ask(far([0] * 198, []), far([], [0] * 198), far([0] * 99, [0] * 99)), [[-1]] * 3)

    def test_a_word_99_and_100(self):
        self.assertEqual(ask(far([99], [98]), far([99], [99])), [[1], [0]])
        self.refused([100], [1])
        self.refused([1], [100])
        self.refused([100], [100])
        self.refused([1, 2, 100], [])
        self.refused([], [1, 100, 2])
        self.refused(EIGHT, [4294967295])


if __name__ == "__main__":
    unittest.main()
