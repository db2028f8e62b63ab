"""Sets of amounts.

A set is a list of words: bit b of word w says whether the amount w * WIDTH + b is in it.
There are several words because one number for 20,000 amounts would have far more than 900 digits.
"""

WIDTH = 1000


def only_nothing(limit):
    """The set of the amount 0 alone, with room for the amounts up to limit."""
    return [1] + [0] * (limit // WIDTH)


def holds(words, amount):
    """Whether the amount, for which there must be room, is in the set."""
    return (words[amount // WIDTH] >> (amount % WIDTH)) & 1 == 1


def greatest(words, limit):
    """The greatest amount up to limit in a set that holds 0."""
    place = limit // WIDTH
    word = words[place] & ((2 << (limit % WIDTH)) - 1)
    while word == 0:
        place -= 1
        word = words[place]
    return place * WIDTH + word.bit_length() - 1


def raised(words, more):
    """Each amount of the set made larger by more; those for which there is no room are left out."""
    skipped = min(more // WIDTH, len(words))
    shift = more % WIDTH
    full = (1 << WIDTH) - 1
    result = [0] * skipped
    carried = 0
    for word in words[:len(words) - skipped]:
        moved = (word << shift) | carried
        result.append(moved & full)
        carried = moved >> WIDTH
    return result


def with_kind(words, value, count):
    """The amounts that are one of the set and up to count coins of this value."""
    result = words
    coins = 1
    left = count
    # Steps of 1, 2, 4 .. coins and the rest reach every number of coins up to count in few steps.
    while left > 0:
        step = min(coins, left)
        result = [one | other for one, other in zip(result, raised(result, step * value))]
        left -= step
        coins *= 2
    return result
