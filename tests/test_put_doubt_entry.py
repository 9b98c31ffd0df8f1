"""Promise 2, as far as it speaks of put, doubt and entry."""

import unittest

from line import BEFORE, TOLD, ask, check_refused, doubt, entry, last, put, release, told_entry
from releasesdesk.catalogue import Catalogue, Entry, answer_doubt, answer_put


def sure_once(key, words, translation):
    return Entry(key, words, translation, True, None)


class Put(unittest.TestCase):
    def test_makes_sure_what_had_no_translation(self):
        self.assertEqual(ask(release((1, [1, 2]), (2, [3])), put(2, [20, 21]), entry(2), entry(1))[1:],
                         [[2, 1, 0, 0], told_entry(1, None, [3], [20, 21]), told_entry(0, None, [1, 2], [])])

    def test_makes_sure_what_was_not(self):
        self.assertEqual(ask(release((1, [1])), put(1, [11]), release((1, [2])), put(1, [12]), entry(1))[2:],
                         [[1, 0, 1, 1], [1, 1, 0, 1], told_entry(1, None, [2], [12])])

    def test_makes_sure_what_was_doubted_with_the_same_translation(self):
        self.assertEqual(ask(release((1, [1])), put(1, [11]), doubt(1), put(1, [11]), entry(1))[2:],
                         [[1, 0, 1, 0], [1, 1, 0, 0], told_entry(1, None, [1], [11])])

    def test_puts_another_translation_in_the_place_of_a_sure_one(self):
        self.assertEqual(ask(release((1, [1])), put(1, [11]), put(1, [12, 12]), entry(1), release(),
                             release((1, [1])), entry(1))[2:],
                         [[1, 1, 0, 0], told_entry(1, None, [1], [12, 12]), [0, 0, 0, 1],
                          [1, 1, 0, 0], told_entry(1, None, [1], [12, 12])])

    def test_leaves_what_is_kept_of_another_text_or_key(self):
        # What is kept of 1 has just the words of the translation that is put: that is no reason to lose it.
        calls = [release((1, [5]), (2, [6])), put(1, [11]), put(2, [22]), release((1, [6])), put(1, [5]),
                 release((1, [5])), entry(1), release((2, [6])), entry(2)]
        self.assertEqual(ask(*calls)[3:], [[1, 0, 1, 2], [1, 1, 0, 2], [1, 1, 0, 2], told_entry(1, None, [5], [11]),
                                           [1, 1, 0, 2], told_entry(1, None, [6], [22])])

    def test_takes_out_what_is_kept_of_that_key_and_text_alone(self):
        # No line of calls leads here: a release never keeps what an entry has the key and text of.
        catalogue = Catalogue()
        catalogue.entries = [Entry(1, [5], [], False, None)]
        catalogue.kept = [sure_once(2, [5], [1]), sure_once(1, [5], [2]), sure_once(1, [6], [3])]
        self.assertEqual(answer_put(catalogue, [1, 1, 6]), [1, 1, 0, 2])
        self.assertEqual([(one.key, one.text) for one in catalogue.kept], [(2, [5]), (1, [6])])

    def test_texts_of_0_1_8_and_9_words(self):
        check_refused(self, BEFORE, put(1, []), -1, TOLD)
        check_refused(self, BEFORE, put(1, [1] * 9), -1, TOLD)
        for words in ([7], [1, 2, 3, 4, 5, 6, 7, 8]):
            self.assertEqual(ask(*BEFORE, put(1, words), entry(1))[4:],
                             [[2, 1, 0, 1], told_entry(1, None, [9], words)])

    def test_a_word_99_and_100(self):
        self.assertEqual(ask(*BEFORE, put(1, [0, 99]), entry(1))[5], told_entry(1, None, [9], [0, 99]))
        check_refused(self, BEFORE, put(1, [100]), -1, TOLD)
        check_refused(self, BEFORE, put(1, [1, 100, 2]), -1, TOLD)

    def test_no_such_entry(self):
        for key in (0, 3, 99, 100):
            with self.subTest(key=key):
                check_refused(self, BEFORE, put(key, [1]), -2, TOLD)
        self.assertEqual(last(put(1, [1])), [-2])
        self.assertEqual(last(release((1, [1])), put(1, [1]), release(), put(1, [1])), [-2])

    def test_the_refusal_told_first(self):
        for words in ([], [1] * 9, [100]):
            with self.subTest(words=words):
                check_refused(self, BEFORE, put(3, words), -1, TOLD)


class Doubt(unittest.TestCase):
    def test_makes_unsure_of_its_own_key(self):
        self.assertEqual(ask(release((7, [1]), (0, [2])), put(7, [11]), put(0, [12]), doubt(7), entry(7), entry(0),
                             doubt(0), entry(0))[3:],
                         [[2, 1, 1, 0], told_entry(0, 7, [1], [11]), told_entry(1, None, [2], [12]),
                          [2, 0, 2, 0], told_entry(0, 0, [2], [12])])

    def test_leaves_what_is_kept(self):
        self.assertEqual(ask(*BEFORE, doubt(1), release((1, [1, 2])), entry(1))[4:],
                         [[2, 0, 1, 1], [1, 1, 0, 0], told_entry(1, None, [1, 2], [11])])

    def test_keeps_nothing_more(self):
        self.assertEqual(ask(release((1, [1])), put(1, [11]), doubt(1), release((2, [5])), release((1, [1])))[2:],
                         [[1, 0, 1, 0], [1, 0, 0, 0], [1, 0, 0, 0]])

    def test_of_one_that_came_back(self):
        self.assertEqual(ask(release((1, [1])), put(1, [11]), release(), release((1, [1])), doubt(1), entry(1),
                             release())[4:], [[1, 0, 1, 0], told_entry(0, 1, [1], [11]), [0, 0, 0, 0]])

    def test_leaves_the_order_of_entries(self):
        catalogue = Catalogue()
        catalogue.entries = [sure_once(3, [1], [1]), sure_once(1, [2], [2]), sure_once(2, [3], [3])]
        answer_doubt(catalogue, [1])
        self.assertEqual([one.key for one in catalogue.entries], [3, 1, 2])

    def test_no_such_entry(self):
        for key in (0, 3, 99, 100):
            with self.subTest(key=key):
                check_refused(self, BEFORE, doubt(key), -2, TOLD)
        self.assertEqual(last(release((1, [1])), put(1, [1]), release(), doubt(1)), [-2])

    def test_it_isnt_sure(self):
        check_refused(self, BEFORE, doubt(2), -6, TOLD)
        check_refused(self, BEFORE + [doubt(1)], doubt(1), -6, TOLD)
        check_refused(self, BEFORE + [release((1, [50]))], doubt(1), -6, TOLD)


class TellEntry(unittest.TestCase):
    def test_a_sure_one(self):
        self.assertEqual(last(release((99, [1, 2])), put(99, [3, 4, 5]), entry(99)), [1, 0, 2, 1, 2, 3, 3, 4, 5])

    def test_one_that_isnt_and_has_a_translation(self):
        self.assertEqual(last(release((99, [1, 2])), put(99, [3]), release((4, [1, 2])), entry(4)),
                         [0, 100, 2, 1, 2, 1, 3])
        self.assertEqual(last(release((0, [1, 2])), put(0, [3]), release((4, [1, 2])), entry(4)),
                         [0, 1, 2, 1, 2, 1, 3])

    def test_one_without_a_translation(self):
        self.assertEqual(last(release((4, [1, 2])), entry(4)), [0, 0, 2, 1, 2, 0])

    def test_changes_nothing(self):
        self.assertEqual(ask(*BEFORE, entry(1), entry(2), release()), ask(*BEFORE, entry(1), entry(2), release()))
        self.assertEqual(last(*BEFORE, entry(1), entry(2), entry(1)), last(*BEFORE, entry(1)))
        self.assertEqual(last(*BEFORE, entry(1), entry(2), release()), last(*BEFORE, release()))

    def test_no_such_entry(self):
        for key in (0, 3, 99, 100):
            with self.subTest(key=key):
                check_refused(self, BEFORE, entry(key), -2, TOLD)
        self.assertEqual(last(release((1, [1])), release(), entry(1)), [-2])


if __name__ == "__main__":
    unittest.main()
