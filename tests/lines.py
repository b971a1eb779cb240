"""Lines of calls in mixed order, for tests that walk along them."""

import random

from tests.helper import TOP

CHANGES = [1, 2, 2, 3, 3, 4, 5, 6, 6, 6, 7, 7, 7, 8, 9, 10, 10, 11, 12, 13, 14, 15, 16]
ASKS = list(range(17, 31)) + [33]
# How many at most, mostly, of the calls that are given one n.
MOST = {
    3: (300, 9000), 4: (20, 20), 5: (40, 400), 6: (3, 1440, 1440), 7: (5, 40), 8: (3, 9), 13: (60, 120), 20: (30, 500),
}


def few(source, most):
    """Mostly 1 to most, now and then 0, one beyond, or anything."""
    return source.choice([source.randint(1, most)] * 12 + [0, most, most + 1, source.randint(0, TOP), TOP])


def start_numbers(source):
    return [source.choice((0, 3, 20, 1000, 1001)), source.choice((0, 1, 2, 7, 100)),
            source.choice((1, 5, 60, 200, 0)), source.choice((1, 4, 30, 500))]


def change_numbers(source, number, k):
    if number == 1:
        return [few(source, source.choice((8, 20, 20, 60, 5000))), few(source, source.choice((3, 1000)))]
    if number in (2, 11):
        return [k, source.choice((0, 1, 1, 1, 0, 2))]
    if number in (9, 12):
        return [k, few(source, 6)]
    if number in (10, 16):
        return [k]
    if number == 14:
        begin = source.randrange(1441)
        return [begin, begin + few(source, 200), few(source, 100000)]
    if number == 15:
        return []
    return [few(source, source.choice(MOST[number]))]


def ask_numbers(source, number, k):
    if number == 20:
        return [few(source, source.choice(MOST[20]))]
    if number == 21:
        return [source.choice((0, 1, 3, source.randrange(8), source.randrange(256), 256, source.randint(0, TOP)))]
    if number == 23:
        return [source.choice([source.randrange(1440)] * 9 + [1439, 1440, TOP])]
    if number in (24, 25, 26):
        return [k]
    return []


def random_call(source):
    number = source.choice(CHANGES * 9 + ASKS * 6 + [31] * 9 + [32] * 9)
    k = source.choice([0, 1, 2, 3, source.randrange(12), TOP])
    if source.randrange(700) == 0:
        return [0] + start_numbers(source)
    if number <= 16:
        return [number] + change_numbers(source, number, k)
    return [number] + ask_numbers(source, number, k)


def skating(source):
    """By chance it seldom gets hard, so now and then it's left to freeze and skaters come."""
    calls = [[1, source.randint(5, 30), 1], [2, source.randrange(6), 1], [2, 0, 1], [3, source.randint(1, 90)], [6, 90]]
    calls += [[7, source.randint(1, 8)], [6, 1], [7, source.randint(1, 50)]]
    return calls + source.choice(([[6, 1]], [[2, 0, 0], [6, 1]], [[6, 2], [31], [6, 1]], []))


def line_of_calls(seed, count):
    """Some begin late; now and then many changes are taken back in a row, and some done again."""
    source = random.Random(seed)
    calls = [[0] + start_numbers(source)]
    calls.append([0] + [source.choice(some) for some in ((0, 3), (0, 2, 5), (1, 20, 80), (1, 8, 60))])
    if seed % 5 == 0:
        calls += [[6, 1440]] * 34
    while len(calls) < count:
        calls.append(random_call(source))
        if source.randrange(60) == 0:
            calls += [[31]] * source.randint(1, 34) + [[32]] * source.randint(0, 34)
        if source.randrange(25) == 0:
            calls += skating(source)
    return calls[:count]
