"""How far two texts are apart, against a search that changes one word after another."""

import itertools
import unittest

import line  # noqa: F401  (it lets the package be found)
from releasesdesk.texts import apart, near_enough

WORDS = (1, 2, 3)


def changed_once(words):
    for place in range(len(words)):
        yield words[:place] + words[place + 1:]
        for word in WORDS:
            yield words[:place] + (word,) + words[place + 1:]
    for place in range(len(words) + 1):
        for word in WORDS:
            yield words[:place] + (word,) + words[place:]


def all_apart(start, longest):
    found = {start: 0}
    edge = [start]
    while edge:
        following = []
        for words in edge:
            for other in changed_once(words):
                if len(other) <= longest and other not in found:
                    found[other] = found[words] + 1
                    following.append(other)
        edge = following
    return found


class Apart(unittest.TestCase):
    def test_against_a_search(self):
        for length in range(5):
            for start in itertools.product(WORDS, repeat=length):
                for other, steps in all_apart(start, 4).items():
                    self.assertEqual(apart(list(start), list(other)), steps, (start, other))

    def test_eight_words(self):
        eight = [1, 2, 3, 4, 5, 6, 7, 8]
        self.assertEqual(apart(eight, eight), 0)
        self.assertEqual(apart(eight, []), 8)
        self.assertEqual(apart([], eight), 8)
        self.assertEqual(apart(eight, [11, 12, 13, 14, 15, 16, 17, 18]), 8)
        self.assertEqual(apart(eight, [8, 1, 2, 3, 4, 5, 6, 7]), 2)
        self.assertEqual(apart(eight, [2, 1, 4, 3, 6, 5, 8, 7]), 5)

    def test_near_enough_at_just_half(self):
        self.assertTrue(near_enough([1, 2, 3], [1, 2, 9]))
        self.assertFalse(near_enough([1, 2, 3], [1, 8, 9]))
        self.assertTrue(near_enough([1, 2], [1, 2, 3, 4]))
        self.assertFalse(near_enough([1], [1, 2, 3]))


if __name__ == "__main__":
    unittest.main()
