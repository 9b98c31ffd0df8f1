"""shows and kept: what stands and what is kept, in order."""

import unittest

from line import (BEFORE, EIGHT, TOLD, all_sure, ask, check_changes_nothing, doubt, entry, kept, last, put, release,
                  rows, shows, together, told_entry, told_kept, told_shows, undo)


class Shows(unittest.TestCase):
    def test_without_entries(self):
        self.assertEqual(ask(shows()), [[0]])
        self.assertEqual(last(release(), shows()), [0])
        self.assertEqual(last(release((100, [1])), shows()), [0])
        self.assertEqual(last(release((1, [1])), put(1, [2]), release(), shows()), [0])

    def test_just_its_numbers(self):
        self.assertEqual(last(release((5, [1, 2])), put(5, [7, 8, 9]), shows()), [1, 5, 1, 3])

    def test_without_translations_as_the_release_told_them(self):
        self.assertEqual(last(release((5, [1]), (99, [2]), (0, [3])), shows()),
                         told_shows((5, 0, 0), (99, 0, 0), (0, 0, 0)))

    def test_sure_ones_and_others(self):
        calls = [release((5, [1]), (2, [2]), (9, [3])), put(2, EIGHT), put(9, [1]), doubt(9), shows()]
        self.assertEqual(last(*calls), told_shows((5, 0, 0), (2, 1, 8), (9, 0, 1)))

    def test_unsure_ones_that_a_release_made(self):
        calls = [release((5, [1, 2]), (2, [3])), put(5, [7, 8]), release((6, [1, 2]), (2, [3]), (5, [1, 2])), shows()]
        self.assertEqual(last(*calls), told_shows((6, 0, 2), (2, 0, 0), (5, 1, 2)))

    def test_the_order_of_the_last_release(self):
        calls = [release((1, [1]), (2, [2]), (3, [3])), put(2, [7]), release((3, [3]), (1, [1]), (2, [2])), shows()]
        self.assertEqual(last(*calls), told_shows((3, 0, 0), (1, 0, 0), (2, 1, 1)))
        self.assertEqual(last(*calls, release((2, [2]), (4, [4])), shows()), told_shows((2, 1, 1), (4, 0, 0)))

    def test_put_doubt_and_together_leave_the_order(self):
        told = release((3, [3]), (1, [1]), (2, [2]))
        self.assertEqual(ask(told, put(1, [7]), shows(), doubt(1), shows(),
                             together((2, [], [8, 9]), (1, [7], [])), shows())[2::2],
                         [told_shows((3, 0, 0), (1, 1, 1), (2, 0, 0)), told_shows((3, 0, 0), (1, 0, 1), (2, 0, 0)),
                          told_shows((3, 0, 0), (1, 0, 0), (2, 1, 2))])

    def test_twelve(self):
        keys = [50, 3, 99, 0, 7, 12, 11, 10, 80, 81, 20, 1]
        self.assertEqual(last(release(*[(key, [key]) for key in keys]), shows()),
                         told_shows(*[(key, 0, 0) for key in keys]))

    def test_changes_nothing(self):
        check_changes_nothing(self, BEFORE, shows(), told_shows((1, 1, 1), (2, 0, 0)), TOLD)


class Kept(unittest.TestCase):
    def test_nothing(self):
        self.assertEqual(ask(kept()), [[0]])
        self.assertEqual(last(release((1, [1])), put(1, [2]), kept()), [0])
        self.assertEqual(last(release((1, [1]), (2, [2])), release((1, [3])), kept()), [0])

    def test_just_its_numbers(self):
        self.assertEqual(last(release((5, [1, 2])), put(5, [7, 8, 9]), release(), kept()), [1, 5, 2, 1, 2, 3, 7, 8, 9])

    def test_in_order_the_entries_as_told_then_what_was_kept(self):
        calls = [release((5, [50]), (2, [20, 21]), (9, [90])), put(2, [2]), put(9, EIGHT), put(5, [5, 5]),
                 release((9, [90]), (7, [70]), (1, [10])), kept(),
                 put(1, [1]), put(7, [7]), kept(),
                 release((2, [20, 21]), (7, [71])), kept()]
        first = told_kept((5, [50], [5, 5]), (2, [20, 21], [2]))
        self.assertEqual([ask(*calls)[place] for place in (5, 8, 10)],
                         [first, first,
                          told_kept((9, [90], EIGHT), (7, [70], [7]), (1, [10], [1]), (5, [50], [5, 5]))])

    def test_what_comes_back_is_not_kept_any_more(self):
        calls = [release((3, [3]), (1, [1]), (2, [2])), put(1, [11]), put(2, [12]), put(3, [13]), release(),
                 release((1, [1])), kept(), release(), kept()]
        self.assertEqual(ask(*calls)[6], told_kept((3, [3], [13]), (2, [2], [12])))
        self.assertEqual(ask(*calls)[8], told_kept((1, [1], [11]), (3, [3], [13]), (2, [2], [12])))

    def test_what_came_back_is_kept_with_its_new_translation(self):
        calls = [release((1, [1])), put(1, [11]), release(), release((1, [1])), put(1, [12, 13]), release(), kept()]
        self.assertEqual(last(*calls), told_kept((1, [1], [12, 13])))

    def test_several_texts_of_one_key(self):
        calls = [release((1, EIGHT)), put(1, [11]), release((1, [2])), put(1, [11]), release((1, [3])), kept()]
        self.assertEqual(last(*calls), told_kept((1, [2], [11]), (1, EIGHT, [11])))

    def test_one_text_of_several_keys(self):
        calls = [release((4, [1]), (3, [1])), put(4, [11]), put(3, [12]), release((5, [1])), kept()]
        self.assertEqual(last(*calls), told_kept((4, [1], [11]), (3, [1], [12])))

    def test_not_what_is_unsure(self):
        calls = [release((1, [1]), (2, [2]), (3, [3])), put(1, [11]), put(2, [12]), put(3, [13]), doubt(2),
                 together((3, [13], [])), release((1, [1, 4])), kept(), release(), kept()]
        self.assertEqual(ask(*calls)[7::2], [told_kept((1, [1], [11]))] * 2)

    def test_put_doubt_and_together_leave_it(self):
        behind = [put(1, [14]), kept(), doubt(1), kept(), together((1, [14], [15]), (2, [], [16])), kept()]
        self.assertEqual(ask(*BEFORE, *behind)[5::2], [told_kept((1, [1, 2], [11]))] * 3)

    def test_thirty(self):
        calls = []
        for first, began in ((10, []), (20, [10]), (30, [20])):
            told = rows(range(10), first)
            calls += [release(*told), all_sure(told, began, [first])]
        expected = [(key, [first, key], [first]) for first in (30, 20, 10) for key in range(10)]
        self.assertEqual(ask(*calls, release(), kept())[6:], [[0, 0, 0, 30], told_kept(*expected)])

    def test_changes_nothing(self):
        check_changes_nothing(self, BEFORE, kept(), told_kept((1, [1, 2], [11])), TOLD)


class EntryChangesNothing(unittest.TestCase):
    def test_entry(self):
        check_changes_nothing(self, BEFORE, entry(1), told_entry(1, None, [9], [13]), TOLD)
        self.assertEqual(last(*BEFORE, entry(1), undo(), entry(1)), told_entry(0, 1, [9], [11]))


if __name__ == "__main__":
    unittest.main()
