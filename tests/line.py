"""Writes calls as numbers, asks them, parts what is given back call by call, and looks behind refusals."""

import os
import sys

ROOT = os.path.dirname(os.path.dirname(os.path.abspath(__file__)))
if ROOT not in sys.path:
    sys.path.insert(0, ROOT)

from releasesdesk.catalogue import answers  # noqa: E402


def text(words):
    return [len(words)] + list(words)


def call(number, numbers):
    return [number, len(numbers)] + numbers + [0]


def release(*rows):
    numbers = []
    for key, words in rows:
        numbers += [key] + text(words)
    return call(0, numbers)


def put(key, words):
    return call(1, [key] + text(words))


def doubt(key):
    return call(2, [key])


def together(*rows):
    numbers = [len(rows)]
    for key, began, theirs in rows:
        numbers += [key] + text(began) + text(theirs)
    return call(3, numbers)


def entry(key):
    return call(4, [key])


def joined(calls):
    return [number for one in calls for number in one]


def parted(given):
    rows = []
    place = 0
    while place < len(given):
        many = given[place]
        rows.append(given[place + 1:place + 1 + many])
        place += 1 + many
    return rows


def ask(*calls):
    if not 1 <= len(calls) <= 30:
        raise ValueError("a line has 1 to 30 calls")
    return parted(answers(joined(calls)))


def last(*calls):
    return ask(*calls)[-1]


def told_entry(sure, source, words, translation):
    """What entry answers; source is the key of which it was made, or None."""
    return [sure, 0 if source is None else source + 1] + text(words) + text(translation)


def looks(told):
    """Calls, each list for a line of its own, that show what a catalogue holds.

    Each key and text that was ever told is asked for: what is kept comes back sure.
    """
    keys = sorted({key for key, words in told})
    lines = [[entry(key) for key in keys], [release()]]
    for row in told:
        lines.append([release(row), entry(row[0])])
        lines.append([release((98, row[1])), entry(98)])
    return lines


def check_refused(test, before, refused, number, told):
    for look in looks(told):
        answered = ask(*before, refused, *look)
        test.assertEqual(answered[len(before)], [number])
        expected = ask(*before, *look)
        test.assertEqual(answered[:len(before)] + answered[len(before) + 1:], expected)
