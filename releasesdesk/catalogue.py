"""The calls on one catalogue, and what it keeps between them."""

from releasesdesk.texts import NotLet, Reader, apart, near_enough, with_count

MOST_KEYS = 12
HIGHEST_KEY = 99
MOST_KEPT = 30

SAME = 0
OURS_ALONE = 1
THEIRS_ALONE = 2
BOTH = 3


class NoEntry(Exception):
    """There's no entry with a key that is told."""


class TooMuchKept(Exception):
    """A release would keep more than is let."""


class NotSure(Exception):
    """What isn't sure can't be doubted."""


class NothingToUndo(Exception):
    """Each change is undone, or there was none."""


class Entry:
    """A key with its text and translation; it's never changed, but exchanged for another one.

    source is the key of which an unsure translation was made, else None.
    """

    def __init__(self, key, text, translation, sure, source):
        self.key = key
        self.text = text
        self.translation = translation
        self.sure = sure
        self.source = source


class Catalogue:
    """The entries in the order of the last release, and the sure ones that aren't shown any more.

    past holds the entries and what was kept ahead of each change that isn't undone.
    """

    def __init__(self):
        self.entries = []
        self.kept = []
        self.past = []

    def remember(self):
        """To be called ahead of a change, when nothing can refuse it any more."""
        # Both lists are only ever exchanged for others, so they needn't be copied.
        self.past.append((self.entries, self.kept))

    def go_back(self):
        if not self.past:
            raise NothingToUndo()
        before = self.past.pop()
        self.entries = before[0]
        self.kept = before[1]

    def known(self):
        return [entry for entry in self.entries if entry.sure] + self.kept

    def entry_of(self, key):
        for entry in self.entries:
            if entry.key == key:
                return entry
        raise NoEntry()

    def exchange(self, changed):
        """Puts an entry in the place of the one with its key."""
        self.entries = [changed if entry.key == changed.key else entry for entry in self.entries]
        self.kept = not_shown(self.kept, self.entries)

    def in_release(self, key, text):
        """The entry that a release makes of a key and its text."""
        # What is kept was sure, and an entry is put back just as it was when it left.
        for entry in self.entries + self.kept:
            if entry.key == key and entry.text == text:
                return entry
        best = best_known(self.known(), key, text)
        if best is None:
            return Entry(key, text, [], False, None)
        return Entry(key, text, best.translation, False, best.key)

    def stands(self):
        sure = [entry for entry in self.entries if entry.sure]
        unsure = [entry for entry in self.entries if not entry.sure and entry.translation]
        return [len(self.entries), len(sure), len(unsure), len(self.kept)]


def is_shown(one, entries):
    for entry in entries:
        if entry.sure and entry.key == one.key and entry.text == one.text:
            return True
    return False


def not_shown(several, entries):
    return [one for one in several if not is_shown(one, entries)]


def best_known(several, key, text):
    """What an unsure translation is made of; None if there's nothing."""
    same_text = [one for one in several if one.text == text]
    if same_text:
        return min(same_text, key=lambda one: one.key)
    same_key = [one for one in several if one.key == key]
    if same_key:
        return same_key[0]
    near = [one for one in several if near_enough(one.text, text)]
    # Of those that are as near and have one key, min gives the first.
    return min(near, key=lambda one: (apart(one.text, text), one.key), default=None)


def check_keys(keys):
    """Refuses too many keys, and one that is told twice."""
    if len(keys) > MOST_KEYS or len(set(keys)) < len(keys):
        raise NotLet()


def read_release(numbers):
    """Of each key: the key, its text."""
    reader = Reader(numbers)
    told = []
    while reader.has_more():
        key = reader.read_number()
        text = reader.read_text(1)
        told.append((key, text))
    keys = [row[0] for row in told]
    check_keys(keys)
    if max(keys, default=0) > HIGHEST_KEY:
        raise NotLet()
    return told


def read_together(numbers):
    """Of each key: the key, what both began with, theirs."""
    reader = Reader(numbers)
    many = reader.read_number()
    if many > MOST_KEYS:
        raise NotLet()
    told = []
    for turn in range(many):
        key = reader.read_number()
        began = reader.read_text(0)
        theirs = reader.read_text(0)
        told.append((key, began, theirs))
    check_keys([row[0] for row in told])
    return told


def became(ours, began, theirs):
    """What becomes of a translation that two hands may have changed."""
    if ours == theirs:
        return SAME
    if theirs == began:
        return OURS_ALONE
    if ours == began:
        return THEIRS_ALONE
    return BOTH


def answer_release(catalogue, numbers):
    told = read_release(numbers)
    entries = [catalogue.in_release(key, text) for key, text in told]
    kept = not_shown(catalogue.known(), entries)
    if len(kept) > MOST_KEPT:
        raise TooMuchKept()
    catalogue.remember()
    catalogue.entries = entries
    catalogue.kept = kept
    return catalogue.stands()


def answer_put(catalogue, numbers):
    reader = Reader(numbers)
    key = reader.read_number()
    translation = reader.read_text(1)
    entry = catalogue.entry_of(key)
    catalogue.remember()
    catalogue.exchange(Entry(key, entry.text, translation, True, None))
    return catalogue.stands()


def answer_doubt(catalogue, numbers):
    entry = catalogue.entry_of(numbers[0])
    if not entry.sure:
        raise NotSure()
    catalogue.remember()
    catalogue.exchange(Entry(entry.key, entry.text, entry.translation, False, entry.key))
    return catalogue.stands()


def answer_together(catalogue, numbers):
    told = read_together(numbers)
    # All entries are looked for ahead of the first change: at a refusal all is as it was.
    ours = [catalogue.entry_of(row[0]) for row in told]
    catalogue.remember()
    became_of = []
    for entry, row in zip(ours, told):
        theirs = row[2]
        what = became(entry.translation, row[1], theirs)
        if what == THEIRS_ALONE:
            catalogue.exchange(Entry(entry.key, entry.text, theirs, len(theirs) > 0, None))
        became_of.append(what)
    return [became_of.count(THEIRS_ALONE)] + became_of


def sure_as_number(entry):
    return 1 if entry.sure else 0


def tell_entry(entry):
    source = 0 if entry.source is None else entry.source + 1
    return [sure_as_number(entry), source] + with_count(entry.text) + with_count(entry.translation)


def answer_entry(catalogue, numbers):
    return tell_entry(catalogue.entry_of(numbers[0]))


def answer_shows(catalogue, numbers):
    told = [len(catalogue.entries)]
    for entry in catalogue.entries:
        told.extend([entry.key, sure_as_number(entry), len(entry.translation)])
    return told


def answer_kept(catalogue, numbers):
    told = [len(catalogue.kept)]
    for one in catalogue.kept:
        told.extend([one.key] + with_count(one.text) + with_count(one.translation))
    return told


def answer_would(catalogue, numbers):
    # It's told, and refused, like a release with this one key.
    row = read_release(numbers)[0]
    return tell_entry(catalogue.in_release(row[0], row[1]))


def answer_undo(catalogue, numbers):
    catalogue.go_back()
    return catalogue.stands()


def answer_far(catalogue, numbers):
    reader = Reader(numbers)
    one = reader.read_text(0)
    other = reader.read_text(0)
    return [apart(one, other)]


CALLS = (answer_release, answer_put, answer_doubt, answer_together, answer_entry,
         answer_shows, answer_kept, answer_would, answer_undo, answer_far)


def answer_call(catalogue, call, numbers):
    try:
        return CALLS[call](catalogue, numbers)
    except NotLet:
        return [-1]
    except NoEntry:
        return [-2]
    except TooMuchKept:
        return [-5]
    except NotSure:
        return [-6]
    except NothingToUndo:
        return [-7]


def answers(calls):
    """What each call of a line answers, on a catalogue that is empty at its beginning."""
    catalogue = Catalogue()
    reader = Reader(calls)
    answered = []
    while reader.has_more():
        call = reader.read_number()
        numbers = reader.read_several(reader.read_number())
        # Behind its numbers each call tells how many lists it has, and none has any.
        reader.read_number()
        answer = answer_call(catalogue, call, numbers)
        answered.extend(with_count(answer))
    return answered
