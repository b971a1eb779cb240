"""Plays calls written as texts, and tells whether a refused call left all as it was."""

from icerink.rink import answers

NAMES = (
    "start", "machine", "run", "flood", "shave", "drain", "minutes", "go", "off",
    "pairs", "hire", "bring", "sharpen", "gap", "ask", "book", "drop",
)
TOP = 4294967295


def numbers_of(texts):
    """The list that is handed in for calls such as "machine 30 5"."""
    numbers = []
    for text in texts:
        words = text.split()
        numbers.append(NAMES.index(words[0]))
        numbers.extend(int(word) for word in words[1:])
    return numbers


def parted(told):
    """One list for each call, from what answers gives back."""
    parts = []
    at = 0
    while at < len(told):
        count = told[at]
        part = told[at + 1:at + 1 + count]
        assert len(part) == count
        parts.append(part)
        at += 1 + count
    return parts


def play(texts):
    parts = parted(answers(numbers_of(texts)))
    assert len(parts) == len(texts)
    return parts


def last(texts):
    return play(texts)[-1]


def size_probes():
    probes = []
    for k in range(10):
        probes += [f"hire {k}", f"bring {k} 0", f"bring {k} 1", f"sharpen {k} 1", f"pairs {k} 1"]
        probes += [f"pairs {k} {n}" for n in (50, 25, 12, 6, 3, 2, 1)]
    return probes


# Between them these answer all that a rink keeps and calls 0 to 16 can show, so what
# a refused call had changed would change an answer behind it.
PROBES = (
    [f"drop {k}" for k in range(8)]
    + ["gap 0", "gap 0", "book", "ask 0 1 1", "book"]
    + ["go 1", "off 1", "drain 1", "minutes 1", "off 1"]
    + [f"run {k} {on}" for k in range(6) for on in (1, 0, 1)]
    + ["minutes 1", "shave 1", "machine 1 1", "flood 1", "minutes 7", "go 1", "minutes 1"]
    + [f"flood {2 ** n}" for n in range(19, -1, -1)]
    + size_probes()
)


class Refusals:
    """Mixed into a TestCase."""

    def refused(self, ahead, text, number):
        told = play(ahead + [text] + PROBES)
        self.assertEqual(told[len(ahead)], [number], text)
        unasked = play(ahead + PROBES)
        self.assertEqual(told[:len(ahead)] + told[len(ahead) + 1:], unasked, text)

    def all_refused(self, ahead, texts, number):
        for text in texts:
            self.refused(ahead, text, number)

    def taken(self, ahead, text, *numbers):
        self.assertEqual(last(ahead + [text]), list(numbers), text)
