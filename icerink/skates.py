"""The calls on pairs of skates, answering as those in icerink.ice do."""

from icerink.refusals import NO_ROOM, NONE_SUCH, NOT_AS_TOLD, NOT_THERE, OUT_OF_REACH, TOO_FEW

MOST_PAIRS = 100


def pairs_in_all(pairs):
    return pairs.sharp + pairs.blunt + pairs.hired


def ir_pairs(rink, k, n):
    if k >= len(rink.sizes):
        return [NOT_THERE]
    if n == 0:
        return [NOT_AS_TOLD]
    pairs = rink.sizes[k]
    if pairs_in_all(pairs) + n > MOST_PAIRS:
        return [NO_ROOM]
    pairs.sharp += n
    return [pairs_in_all(pairs)]


def ir_hire(rink, k):
    if k >= len(rink.sizes):
        return [NOT_THERE]
    pairs = rink.sizes[k]
    if pairs.sharp == 0:
        return [TOO_FEW]
    pairs.sharp -= 1
    pairs.hired += 1
    return [pairs.sharp]


def ir_bring(rink, k, blunt):
    if k >= len(rink.sizes):
        return [NOT_THERE]
    if blunt > 1:
        return [NOT_AS_TOLD]
    pairs = rink.sizes[k]
    if pairs.hired == 0:
        return [NONE_SUCH]
    pairs.hired -= 1
    if blunt == 1:
        pairs.blunt += 1
    else:
        pairs.sharp += 1
    return [pairs.hired]


def ir_sharpen(rink, k, n):
    if k >= len(rink.sizes):
        return [NOT_THERE]
    if n == 0:
        return [NOT_AS_TOLD]
    pairs = rink.sizes[k]
    if pairs.blunt < n:
        return [TOO_FEW]
    pairs.blunt -= n
    pairs.sharp += n
    return [pairs.sharp]


def nearest_size(sizes, k):
    """None if no size has a sharp pair."""
    nearest = None
    for size, pairs in enumerate(sizes):
        # Sizes rise, so one that differs no more than an earlier one is the greater of the two.
        if pairs.sharp > 0 and (nearest is None or abs(size - k) <= abs(nearest - k)):
            nearest = size
    return nearest


def ir_size(rink, k):
    if k >= len(rink.sizes):
        return [NOT_THERE]
    pairs = rink.sizes[k]
    return [pairs_in_all(pairs), pairs.sharp, pairs.blunt, pairs.hired]


def ir_nearest(rink, k):
    if k >= len(rink.sizes):
        return [NOT_THERE]
    nearest = nearest_size(rink.sizes, k)
    if nearest is None:
        return [OUT_OF_REACH]
    return [nearest]
