"""Texts: how they are read out of numbers, and how far two of them are apart."""

MOST_WORDS = 8
HIGHEST_WORD = 99


class NotLet(Exception):
    """What is told is beyond what the words let."""


class Reader:
    """Takes a row of numbers from its beginning to its end, without changing it."""

    def __init__(self, numbers):
        self.numbers = numbers
        self.place = 0

    def has_more(self):
        return self.place < len(self.numbers)

    def read_number(self):
        number = self.numbers[self.place]
        self.place += 1
        return number

    def read_several(self, many):
        several = self.numbers[self.place:self.place + many]
        self.place += many
        return several

    def read_text(self, fewest):
        """The next text; it's refused if it has fewer words than that, or is no text."""
        many = self.read_number()
        if many < fewest or many > MOST_WORDS:
            raise NotLet()
        words = self.read_several(many)
        if max(words, default=0) > HIGHEST_WORD:
            raise NotLet()
        return words


def with_count(words):
    """The text as it's answered."""
    return [len(words)] + words


def apart(one, other):
    """The fewest words that must be exchanged, taken out or put in to make one the other."""
    # steps[n]: how far the words of one that were gone through are from the other's first n.
    steps = list(range(len(other) + 1))
    for gone, word in enumerate(one, start=1):
        following = [gone]
        for place, wanted in enumerate(other):
            exchanged = steps[place] + (0 if word == wanted else 1)
            taken_out = steps[place + 1] + 1
            put_in = following[place] + 1
            following.append(min(exchanged, taken_out, put_in))
        steps = following
    return steps[len(other)]


def near_enough(one, other):
    """Whether at most half the longer one's words lie between them."""
    return 2 * apart(one, other) <= max(len(one), len(other))
