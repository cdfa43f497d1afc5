"""The lines of races: what such a line is, and the interests of its race."""

from totecombos.words import is_number

LEAST_RUNNERS = 2
MOST_RUNNERS = 24
MOST_COUPLES = 8

# "race" and the number of runners; behind them stand the couples, three words each.
HEAD_WORDS = 2
COUPLE_WORDS = 3


def is_race(words):
    """Whether these are the words of a race's line."""
    behind = len(words) - HEAD_WORDS
    if behind < 0 or behind % COUPLE_WORDS != 0 or behind > COUPLE_WORDS * MOST_COUPLES:
        return False
    if words[0] != "race" or not is_number(words[1], LEAST_RUNNERS, MOST_RUNNERS):
        return False
    return has_good_couples(words, int(words[1]))


def has_good_couples(words, runners):
    """Whether the words behind the first two are couples that go together."""
    firsts = []
    seconds = []
    for at in range(HEAD_WORDS, len(words), COUPLE_WORDS):
        if not is_couple(words[at:at + COUPLE_WORDS], runners):
            return False
        first = int(words[at + 1])
        second = int(words[at + 2])
        if first in seconds or second in firsts or second in seconds:
            return False
        firsts.append(first)
        seconds.append(second)
    return True


def is_couple(words, runners):
    """Whether three words are a couple by itself, whatever stands before it."""
    if words[0] != "couple" or not is_number(words[1], 1, runners) or not is_number(words[2], 1, runners):
        return False
    return int(words[1]) < int(words[2])


def interests_of(words):
    """The heads of a race, rising. words: those of a race's line."""
    seconds = [int(words[at]) for at in range(HEAD_WORDS + 2, len(words), COUPLE_WORDS)]
    return [runner for runner in range(1, int(words[1]) + 1) if runner not in seconds]
