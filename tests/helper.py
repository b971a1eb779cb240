"""Plays calls written as texts, and tells whether a refused call left all as it was."""

import functools

from icerink.rink import answers

NAMES = (
    "start", "machine", "run", "flood", "shave", "drain", "minutes", "go", "off",
    "pairs", "hire", "bring", "sharpen", "gap", "ask", "book", "drop",
    "hard", "soon", "bears", "cheapest", "would", "best", "who", "look", "size", "nearest",
    "ice", "power", "water", "money", "back", "again", "state",
)
TOP = 4294967295


def numbers_of(texts):
    """The list that is handed in for calls such as "machine 30 5"."""
    numbers = []
    for text in texts:
        words = text.split()
        numbers.append(NAMES.index(words[0]))
        numbers.extend(int(word) for word in words[1:])
    return numbers


def parted(told):
    """One list for each call, from what answers gives back."""
    parts = []
    at = 0
    while at < len(told):
        count = told[at]
        part = told[at + 1:at + 1 + count]
        assert len(part) == count
        parts.append(part)
        at += 1 + count
    return parts


def play(texts):
    parts = parted(answers(numbers_of(texts)))
    assert len(parts) == len(texts)
    return parts


def last(texts):
    return play(texts)[-1]


# All that can be asked of a rink without changing it.
ASKS = (
    ["ice", "power", "water", "money", "state", "hard", "soon", "bears", "best"]
    + [f"cheapest {n}" for n in (0, 1, 9, 500)]
    + [f"would {bits}" for bits in (0, 1, 3, 255)]
    + [f"who {minute}" for minute in (0, 60, 75, 1439)]
    + [f"look {k}" for k in range(8)]
    + [f"size {k}" for k in range(10)]
    + [f"nearest {k}" for k in (0, 5, 9)]
)

# What can't be asked shows in what these answer: the gap, least and room, and each change that can be
# taken back or done again. So whatever a refused call had changed would change an answer behind it.
PROBES = (
    ASKS
    + ["again", "ice", "money", "state"] * 3
    + ["back", "ice", "power", "money", "state"] * 9
    + ["again", "ice", "power", "money", "state"] * 9
    + [f"drop {k}" for k in range(8)]
    + ["gap 0", "gap 0", "book", "ask 0 1 1", "book"]
    + ["go 1", "off 1", "drain 1", "minutes 1", "off 1"]
    + [f"run {k} {on}" for k in range(6) for on in (1, 0, 1)]
    + ["minutes 1", "shave 1", "machine 1 1", "flood 1", "minutes 7", "go 1", "minutes 1"]
    + [f"flood {2 ** n}" for n in range(19, -1, -1)]
    + ASKS
)


@functools.lru_cache(maxsize=None)
def probed(ahead):
    return play(list(ahead) + PROBES)[len(ahead):]


class Refusals:
    """Mixed into a TestCase."""

    def refused(self, ahead, text, number):
        """It answers that alone, and all is as it was."""
        self.asked(ahead, text, number)

    def all_refused(self, ahead, texts, number):
        for text in texts:
            self.refused(ahead, text, number)

    def taken(self, ahead, text, *numbers):
        self.assertEqual(last(ahead + [text]), list(numbers), text)

    def asked(self, ahead, text, *numbers):
        """It answers these, and asking changes nothing."""
        told = play(ahead + [text] + PROBES)
        self.assertEqual(told[len(ahead)], list(numbers), text)
        self.assertEqual(told[len(ahead) + 1:], probed(tuple(ahead)), text)
