"""Writes calls as numbers, asks them, parts what is given back call by call, and looks behind refusals."""

import os
import sys

ROOT = os.path.dirname(os.path.dirname(os.path.abspath(__file__)))
if ROOT not in sys.path:
    sys.path.insert(0, ROOT)

from releasesdesk.catalogue import answers  # noqa: E402


def text(words):
    return [len(words)] + list(words)


def call(number, numbers):
    return [number, len(numbers)] + numbers + [0]


def release(*rows):
    numbers = []
    for key, words in rows:
        numbers += [key] + text(words)
    return call(0, numbers)


def put(key, words):
    return call(1, [key] + text(words))


def doubt(key):
    return call(2, [key])


def together(*rows):
    numbers = [len(rows)]
    for key, began, theirs in rows:
        numbers += [key] + text(began) + text(theirs)
    return call(3, numbers)


def entry(key):
    return call(4, [key])


def shows():
    return call(5, [])


def kept():
    return call(6, [])


def would(key, words):
    return call(7, [key] + text(words))


def undo():
    return call(8, [])


def far(one, other):
    return call(9, text(one) + text(other))


def rows(keys, first_word):
    return [(key, [first_word, key]) for key in keys]


def all_sure(told, began, theirs):
    """Makes each entry sure in one call."""
    return together(*[(key, began, theirs) for key, words in told])


def much_kept(more):
    """24 kept, and as many sure entries as told; the next release may keep them all."""
    first = rows(range(12), 10)
    second = rows(range(12), 20)
    third = rows(range(more), 30)
    calls = [release(*first), all_sure(first, [], [1]),
             release(*second), all_sure(second, [1], [2]),
             release(*third), all_sure(third, [2], [3])]
    return calls, first + second + third


EIGHT = [1, 2, 3, 4, 5, 6, 7, 8]
TOLD = [(1, [1, 2]), (2, [3]), (1, [9])]
# 1 is sure, 2 is without a translation, (1, [1, 2]) is kept.
BEFORE = [release((1, [1, 2]), (2, [3])), put(1, [11]), release((1, [9]), (2, [3])), put(1, [13])]


def joined(calls):
    return [number for one in calls for number in one]


def parted(given):
    rows = []
    place = 0
    while place < len(given):
        many = given[place]
        rows.append(given[place + 1:place + 1 + many])
        place += 1 + many
    return rows


def ask(*calls):
    if not 1 <= len(calls) <= 30:
        raise ValueError("a line has 1 to 30 calls")
    return parted(answers(joined(calls)))


def last(*calls):
    return ask(*calls)[-1]


def told_entry(sure, source, words, translation):
    """What entry answers; source is the key of which it was made, or None."""
    return [sure, 0 if source is None else source + 1] + text(words) + text(translation)


def told_shows(*rows):
    """What shows answers; a row is a key, 1 or 0, and how many words its translation has."""
    return [len(rows)] + joined(rows)


def told_kept(*rows):
    """What kept answers; a row is a key, a text and a translation."""
    return [len(rows)] + joined([[key] + text(words) + text(translation) for key, words, translation in rows])


def whole(*keys):
    """Calls that show all that a catalogue holds, if its entries have no other keys than these."""
    return [shows(), kept()] + [entry(key) for key in keys]


def seen(keys, *calls):
    """All that a catalogue holds behind some calls."""
    look = whole(*keys)
    return ask(*calls, *look)[-len(look):]


def looks(told):
    """Calls, each list for a line of its own, that show what a catalogue holds.

    Each key and text that was ever told is asked for: what is kept comes back sure. And what undo comes back to is
    seen: a call that is refused, or only answers, is nothing that it could undo.
    """
    keys = sorted({key for key, words in told})
    lines = [whole(*keys), [release()], [undo()] + whole(*keys), [undo(), undo()] + whole(*keys)]
    for row in told:
        lines.append([release(row), entry(row[0])])
        lines.append([release((98, row[1])), entry(98)])
    return lines


def check_changes_nothing(test, before, asked, answer, told):
    for look in looks(told):
        answered = ask(*before, asked, *look)
        test.assertEqual(answered[len(before)], answer)
        expected = ask(*before, *look)
        test.assertEqual(answered[:len(before)] + answered[len(before) + 1:], expected)


def check_refused(test, before, refused, number, told):
    check_changes_nothing(test, before, refused, [number], told)
