"""Promise 3, as far as it speaks of undo."""

import unittest

from line import (BEFORE, TOLD, ask, check_refused, doubt, entry, far, kept, last, much_kept, put, release, seen, shows,
                  together, told_entry, told_kept, told_shows, undo, would)

KEYS = (1, 2, 3)
STANDS = [2, 1, 0, 1]

CHANGES = {
    "release": release((3, [1, 2]), (2, [9])),
    "release that brings back": release((1, [1, 2])),
    "release of nothing": release(),
    "release of just the same": release((1, [9]), (2, [3])),
    "release in another order": release((2, [3]), (1, [9])),
    "put": put(2, [22, 23]),
    "put on a sure one": put(1, [14]),
    "put of just the same": put(1, [13]),
    "doubt": doubt(1),
    "together": together((1, [13], [14, 15]), (2, [], [22])),
    "together that takes what has no words": together((1, [13], [])),
    "together that takes nothing": together((1, [12], [12]), (2, [7], [8])),
    "together of nothing": together(),
}
ONLY_ANSWER = [entry(1), entry(2), shows(), kept(), would(1, [1, 2]), would(5, [50]), far([1], [2])]
REFUSED = [release((100, [1])), release((1, [])), release((1, [1]), (1, [2])), put(1, []), put(7, [1]), doubt(2),
           doubt(7), together((1, [13], [14]), (1, [13], [14])), together((1, [13], [14]), (7, [], [])), entry(7),
           would(100, [1]), far([100], [])]


class OneChange(unittest.TestCase):
    def test_all_is_as_it_was(self):
        for name, change in CHANGES.items():
            with self.subTest(change=name):
                self.assertEqual(last(*BEFORE, change, undo()), STANDS)
                self.assertEqual(seen(KEYS, *BEFORE, change, undo()), seen(KEYS, *BEFORE))

    def test_what_comes_behind_is_as_if_it_had_not_been(self):
        behind = [release((1, [1, 2]), (3, [9])), shows(), kept(), entry(1), entry(3)]
        for name, change in CHANGES.items():
            with self.subTest(change=name):
                self.assertEqual(ask(*BEFORE, change, undo(), *behind)[6:], ask(*BEFORE, *behind)[4:])

    def test_only_the_last_is_undone(self):
        for name, change in CHANGES.items():
            with self.subTest(change=name):
                self.assertEqual(seen(KEYS, *BEFORE, change, undo(), undo()), seen(KEYS, *BEFORE[:3]))

    def test_how_it_stands(self):
        self.assertEqual(ask(*BEFORE, undo(), undo(), undo(), undo())[4:],
                         [[2, 0, 1, 1], [2, 1, 0, 0], [2, 0, 0, 0], [0, 0, 0, 0]])

    def test_the_first_release(self):
        self.assertEqual(ask(release((1, [1])), undo(), shows(), kept(), entry(1), put(1, [1]))[1:],
                         [[0, 0, 0, 0], [0], [0], [-2], [-2]])

    def test_entries_and_what_is_kept_in_their_order(self):
        calls = [release((3, [3]), (1, [1]), (2, [2])), put(1, [11]), put(3, [13]), release((2, [2]), (9, [9])),
                 release((9, [9]), (1, [1])), shows(), kept(), undo(), shows(), kept(), undo(), shows(), kept()]
        self.assertEqual(ask(*calls)[5:],
                         [told_shows((9, 0, 0), (1, 1, 1)), told_kept((3, [3], [13])),
                          [2, 0, 0, 2], told_shows((2, 0, 0), (9, 0, 0)), told_kept((3, [3], [13]), (1, [1], [11])),
                          [3, 2, 0, 0], told_shows((3, 1, 1), (1, 1, 1), (2, 0, 0)), [0]])

    def test_of_which_key_it_was_made(self):
        guessed = [release((4, [1])), put(4, [11]), release((2, [1]))]
        for change in (put(2, [12]), together((2, [11], [12])), release((2, [7]))):
            self.assertEqual(last(*guessed, change, undo(), entry(2)), told_entry(0, 4, [1], [11]))


class SeveralChanges(unittest.TestCase):
    def test_one_behind_another_down_to_nothing(self):
        changes = BEFORE + [doubt(1), together((1, [13], [14]), (2, [7], [8])), together(), release((2, [9])),
                            put(2, [5])]
        for many in range(1, len(changes) + 1):
            with self.subTest(many=many):
                left = changes[:len(changes) - many]
                self.assertEqual(seen(KEYS, *changes, *[undo()] * many), seen(KEYS, *left))
        self.assertEqual(ask(*changes, *[undo()] * (len(changes) + 2))[-3:], [[0, 0, 0, 0], [-7], [-7]])

    def test_a_change_behind_an_undo_and_undo_again(self):
        for first, second in (("release", "put"), ("put", "doubt"), ("doubt", "together"), ("together", "release"),
                              ("together that takes nothing", "release of nothing")):
            with self.subTest(first=first, second=second):
                calls = BEFORE + [CHANGES[first], undo(), CHANGES[second]]
                self.assertEqual(seen(KEYS, *calls), seen(KEYS, *BEFORE, CHANGES[second]))
                self.assertEqual(seen(KEYS, *calls, undo()), seen(KEYS, *BEFORE))
                # What was undone once isn't undone again: next is the put ahead of it.
                self.assertEqual(seen(KEYS, *calls, undo(), undo()), seen(KEYS, *BEFORE[:3]))
                self.assertEqual(last(*calls, *[undo()] * 5), [0, 0, 0, 0])
                self.assertEqual(last(*calls, *[undo()] * 6), [-7])

    def test_an_undo_is_not_undone(self):
        self.assertEqual(ask(release((1, [1])), put(1, [11]), undo(), undo(), undo())[2:],
                         [[1, 0, 0, 0], [0, 0, 0, 0], [-7]])

    def test_what_is_undone_is_not_known(self):
        self.assertEqual(ask(release((1, [1])), put(1, [11]), undo(), release((2, [1])), entry(2), kept())[3:],
                         [[1, 0, 0, 0], told_entry(0, None, [1], []), [0]])

    def test_what_a_release_took_too_much_for_may_be_told_behind_an_undo(self):
        calls, told = much_kept(7)
        self.assertEqual(ask(*calls, release(), undo(), release(), undo())[6:],
                         [[-5], [7, 0, 7, 24], [0, 0, 0, 24], [7, 0, 7, 24]])


class NothingToUndo(unittest.TestCase):
    def test_at_the_beginning(self):
        self.assertEqual(ask(undo()), [[-7]])
        self.assertEqual(ask(undo(), undo(), release((1, [1])), undo(), undo()),
                         [[-7], [-7], [1, 0, 0, 0], [0, 0, 0, 0], [-7]])

    def test_all_is_as_it_was(self):
        check_refused(self, [], undo(), -7, TOLD)
        check_refused(self, BEFORE + [undo()] * 4, undo(), -7, TOLD)

    def test_a_call_that_only_answers_is_nothing(self):
        for asked in (shows(), kept(), would(1, [1]), far([1], [2]), entry(1)):
            self.assertEqual(last(asked, undo()), [-7])
        self.assertEqual(last(*ONLY_ANSWER, undo()), [-7])
        self.assertEqual(ask(*BEFORE, *ONLY_ANSWER, undo())[-1], [2, 0, 1, 1])
        self.assertEqual(seen(KEYS, *BEFORE, *ONLY_ANSWER, undo()), seen(KEYS, *BEFORE[:3]))

    def test_a_call_that_only_answers_between_undos_is_nothing(self):
        calls = BEFORE + [doubt(1), undo()] + ONLY_ANSWER + [undo()]
        self.assertEqual(seen(KEYS, *calls), seen(KEYS, *BEFORE[:3]))

    def test_a_refused_call_is_nothing(self):
        for place, refused in enumerate(REFUSED):
            with self.subTest(place=place):
                self.assertLess(last(*BEFORE, refused)[0], 0)
                self.assertEqual(last(*BEFORE, refused, undo()), [2, 0, 1, 1])
                self.assertEqual(seen(KEYS, *BEFORE, refused, undo()), seen(KEYS, *BEFORE[:3]))
        self.assertEqual(ask(put(1, [1]), doubt(1), release((1, [])), together((1, [], [])), undo()),
                         [[-2], [-2], [-1], [-2], [-7]])

    def test_a_refused_call_behind_an_undo_is_nothing(self):
        for place, refused in enumerate(REFUSED):
            with self.subTest(place=place):
                calls = BEFORE + [CHANGES["together"], undo(), refused, undo()]
                self.assertEqual(seen(KEYS, *calls), seen(KEYS, *BEFORE[:3]))


if __name__ == "__main__":
    unittest.main()
