"""Lines of calls of every kind by chance, against the words of the document written down once more, by replaying."""

import functools
import random
import unittest

from line import (ask, doubt, entry, far, kept, put, release, seen, shows, text, together, told_entry, told_kept,
                  told_shows, undo, would)

KEYS = range(6)


@functools.lru_cache(maxsize=None)
def steps(one, other):
    if not one or not other:
        return len(one) + len(other)
    return min(steps(one[1:], other) + 1, steps(one, other[1:]) + 1,
               steps(one[1:], other[1:]) + (one[0] != other[0]))


def wrong_words(words, fewest):
    return not fewest <= len(words) <= 8 or any(word > 99 for word in words)


def sure_rows(entries):
    return [(key, words, translation) for key, words, translation, sure, source in entries if sure]


class Replayed:
    """A catalogue that undoes by beginning anew with all changes but the last.

    An entry is a key, a text, a translation, 1 or 0, and a key or None; what is kept is the first three of these.
    """

    def __init__(self):
        self.begin(())

    def begin(self, changes):
        self.entries = []
        self.kept = []
        self.changes = []
        for change in changes:
            self.answer(*change)

    def answer(self, name, *told):
        answer = getattr(self, name)(*told)
        if answer[0] >= 0 and name in ("release", "put", "doubt", "together"):
            self.changes.append((name,) + told)
        return answer

    def stands(self):
        return [len(self.entries), sum(row[3] for row in self.entries),
                sum(1 for row in self.entries if not row[3] and row[2]), len(self.kept)]

    def find(self, key):
        return next((place for place, row in enumerate(self.entries) if row[0] == key), None)

    def becomes(self, key, words):
        for row in self.entries:
            if row[:2] == (key, words):
                return row
        known = sure_rows(self.entries) + self.kept
        for row in known:
            if row[:2] == (key, words):
                return row + (1, None)
        ranks = []
        for place, (other_key, other, translation) in enumerate(known):
            apart = steps(other, words)
            if other == words:
                ranks.append((0, other_key, 0, place))
            elif other_key == key:
                ranks.append((1, place, 0, place))
            elif apart <= max(len(other), len(words)) / 2:
                ranks.append((2, apart, other_key, place))
        if not ranks:
            return (key, words, (), 0, None)
        best = known[min(ranks)[3]]
        return (key, words, best[2], 0, best[0])

    def release(self, *rows):
        keys = [key for key, words in rows]
        if len(rows) > 12 or len(set(keys)) < len(keys) or any(key > 99 for key in keys):
            return [-1]
        if any(wrong_words(words, 1) for key, words in rows):
            return [-1]
        entries = [self.becomes(key, words) for key, words in rows]
        shown = [row[:2] for row in sure_rows(entries)]
        left = [row for row in sure_rows(self.entries) + self.kept if row[:2] not in shown]
        if len(left) > 30:
            return [-5]
        self.entries = entries
        self.kept = left
        return self.stands()

    def change(self, place, translation, sure, source):
        key, words = self.entries[place][:2]
        self.entries[place] = (key, words, translation, sure, source)
        if sure:
            self.kept = [row for row in self.kept if row[:2] != (key, words)]

    def put(self, key, words):
        if wrong_words(words, 1):
            return [-1]
        if self.find(key) is None:
            return [-2]
        self.change(self.find(key), words, 1, None)
        return self.stands()

    def doubt(self, key):
        if self.find(key) is None:
            return [-2]
        row = self.entries[self.find(key)]
        if not row[3]:
            return [-6]
        self.change(self.find(key), row[2], 0, key)
        return self.stands()

    def together(self, *rows):
        keys = [row[0] for row in rows]
        if len(rows) > 12 or len(set(keys)) < len(keys):
            return [-1]
        if any(wrong_words(words, 0) for row in rows for words in row[1:]):
            return [-1]
        if None in [self.find(key) for key in keys]:
            return [-2]
        became = []
        for key, began, theirs in rows:
            ours = self.entries[self.find(key)][2]
            became.append(0 if ours == theirs else 1 if theirs == began else 2 if ours == began else 3)
            if became[-1] == 2:
                self.change(self.find(key), theirs, 1 if theirs else 0, None)
        return [became.count(2)] + became

    def tell(self, row):
        key, words, translation, sure, source = row
        return told_entry(sure, source, words, translation)

    def entry(self, key):
        return [-2] if self.find(key) is None else self.tell(self.entries[self.find(key)])

    def shows(self):
        return told_shows(*[(row[0], row[3], len(row[2])) for row in self.entries])

    def tell_kept(self):
        return told_kept(*self.kept)

    def would(self, key, words):
        return [-1] if key > 99 or wrong_words(words, 1) else self.tell(self.becomes(key, words))

    def undo(self):
        if not self.changes:
            return [-7]
        self.begin(self.changes[:-1])
        return self.stands()

    def far(self, one, other):
        return [-1] if wrong_words(one, 0) or wrong_words(other, 0) else [steps(one, other)]


WRITERS = {"release": release, "put": put, "doubt": doubt, "together": together, "entry": entry, "shows": shows,
           "tell_kept": kept, "would": would, "undo": undo, "far": far}
NAMES = ["release"] * 4 + ["put"] * 6 + ["doubt", "together", "together", "entry", "shows", "tell_kept", "would",
                                         "would", "undo", "undo", "undo", "far"]


def some_words(chance, fewest, most):
    if chance.random() < 0.02:
        return chance.choice(((), (1,) * 9, (100,), (99,), (1, 2, 3, 1, 2, 3, 1, 2)))
    return tuple(chance.randrange(3) for place in range(chance.randint(fewest, most)))


def some_key(chance):
    return chance.choice((99, 100)) if chance.random() < 0.02 else chance.choice(KEYS)


def some_told(chance, name, model):
    """What a call is told, often of keys that have entries."""
    standing = [row[0] for row in model.entries] or list(KEYS)
    key = chance.choice(standing) if chance.random() < 0.8 else some_key(chance)
    if name == "release":
        rows = [(one, some_words(chance, 1, 4)) for one in chance.sample(KEYS, chance.randint(0, 5))]
        return rows + [(some_key(chance), (1,))] if chance.random() < 0.05 else rows
    if name == "put":
        return [key, some_words(chance, 1, 2)]
    if name == "together":
        keys = chance.sample(standing, chance.randint(0, min(3, len(standing))))
        return [(one, some_words(chance, 0, 1), some_words(chance, 0, 1)) for one in keys]
    if name == "would":
        return [some_key(chance), some_words(chance, 1, 4)]
    if name == "far":
        return [some_words(chance, 0, 5), some_words(chance, 0, 5)]
    return [key] if name in ("doubt", "entry") else []


def some_line(chance, many):
    model = Replayed()
    calls = []
    expected = []
    for turn in range(many):
        name = chance.choice(NAMES)
        told = some_told(chance, name, model)
        calls.append(WRITERS[name](*told))
        expected.append(model.answer(name, *told))
    return calls, expected, model


class Lines(unittest.TestCase):
    def test_against_the_words_written_down_once_more(self):
        refusals = set()
        for line in range(600):
            calls, expected, model = some_line(random.Random(line), 30)
            self.assertEqual(ask(*calls), expected, line)
            refusals.update(answer[0] for answer in expected if answer[0] < 0)
        self.assertEqual(refusals, {-1, -2, -6, -7})

    def test_only_the_changes_that_arent_undone_count(self):
        for line in range(300):
            calls, expected, model = some_line(random.Random(line), 20)
            left = [WRITERS[name](*told) for name, *told in model.changes]
            self.assertEqual(seen(KEYS, *calls), seen(KEYS, *left), line)

    def test_would_tells_what_a_release_makes(self):
        for line in range(300):
            chance = random.Random(line)
            calls, expected, model = some_line(chance, 24)
            for key in KEYS:
                words = some_words(chance, 1, 4)
                told, stands, made = ask(*calls, would(key, words), release((key, words)), entry(key))[-3:]
                if stands[0] >= 0:
                    self.assertEqual(told, made, (line, key, words))

    def test_nothing_is_lost_by_a_release_and_one_can_be_taken_back(self):
        for line in range(300):
            chance = random.Random(line)
            calls, expected, model = some_line(chance, 20)
            back = release(*[row[:2] for row in model.entries])
            between = release(*[(key, some_words(chance, 1, 3)) for key in chance.sample(KEYS, 3)])
            answered = ask(*calls, between, back)
            if min(answered[-2][0], answered[-1][0]) < 0:
                continue
            sure = [row for row in model.entries if row[3]]
            self.assertEqual(answered[-1][1], len(sure))
            self.assertEqual(answered[-1][3], len(model.kept))
            told = ask(*calls, between, back, *[entry(row[0]) for row in sure], undo())[len(calls) + 2:-1]
            self.assertEqual(told, [[1, 0] + text(row[1]) + text(row[2]) for row in sure])


if __name__ == "__main__":
    unittest.main()
