"""What holds of every catalogue, however it was come to: nothing is lost by a release, and one can be taken back."""

import random
import unittest

import line  # noqa: F401  (it lets the package be found)
from releasesdesk.catalogue import Catalogue, answer_call


def some_text(chance, fewest, most):
    words = [chance.randrange(3) for place in range(chance.randint(fewest, most))]
    return [len(words)] + words


def some_release(chance):
    numbers = []
    for key in chance.sample(range(6), chance.randint(0, 5)):
        numbers += [key] + some_text(chance, 1, 4)
    return numbers


def some_call(chance):
    call = chance.choice((0, 1, 1, 1, 2, 3))
    if call == 0:
        return call, some_release(chance)
    key = [chance.randrange(6)]
    if call == 1:
        return call, key + some_text(chance, 1, 2)
    if call == 2:
        return call, key
    return call, [1] + key + some_text(chance, 0, 1) + some_text(chance, 0, 1)


def rows(several):
    return [(one.key, one.text, one.translation) for one in several]


def sure_rows(catalogue):
    return rows(entry for entry in catalogue.entries if entry.sure)


def as_release(catalogue):
    numbers = []
    for entry in catalogue.entries:
        numbers += [entry.key] + line.text(entry.text)
    return numbers


class Whole(unittest.TestCase):
    def check_release(self, catalogue, chance):
        before = rows(catalogue.known())
        sure = sure_rows(catalogue)
        back = as_release(catalogue)
        if answer_call(catalogue, 0, some_release(chance)) == [-5]:
            self.assertEqual(rows(catalogue.known()), before)
            return
        self.assertEqual(sorted(rows(catalogue.known())), sorted(before))
        if answer_call(catalogue, 0, back) != [-5]:
            self.assertEqual(sure_rows(catalogue), sure)
            self.assertEqual(sorted(rows(catalogue.known())), sorted(before))

    def check_known(self, catalogue):
        known = [(one.key, tuple(one.text)) for one in catalogue.known()]
        self.assertEqual(len(set(known)), len(known))
        standing = [(one.key, one.text) for one in catalogue.entries]
        self.assertEqual([one for one in catalogue.kept if (one.key, one.text) in standing], [])
        self.assertEqual([one for one in catalogue.known() if not one.translation], [])

    def test_many_walks(self):
        for walk in range(300):
            chance = random.Random(walk)
            catalogue = Catalogue()
            for turn in range(15):
                call, numbers = some_call(chance)
                answer_call(catalogue, call, numbers)
                self.check_known(catalogue)
            self.check_release(catalogue, chance)


if __name__ == "__main__":
    unittest.main()
