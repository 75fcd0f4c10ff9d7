"""Lists of pairs for the tests, and the document's words told on sets of pairs.

The words are told apart from how the program keeps acquaintances, so that the
program is never measured by itself.
"""

import itertools

REFUSED = [-22]
LARGEST = 4294967295


def row(n):
    return [guest for first in range(n - 1) for guest in (first, first + 1)]


def ring(n):
    return row(n) + [n - 1, 0]


def everybody(n):
    return [guest for pair in itertools.combinations(range(n), 2) for guest in pair]


def every_list(n):
    pairs = list(itertools.combinations(range(n), 2))
    for choice in itertools.product((False, True), repeat=len(pairs)):
        yield [guest for pair, chosen in zip(pairs, choice) if chosen for guest in pair]


def some_lists_of_eight():
    """Each seventh pair, each eleventh and so on, from every start: sparse and dense ones alike."""
    pairs = list(itertools.combinations(range(8), 2))
    for stride in (1, 2, 3, 4, 5, 7, 9, 11):
        for start in range(len(pairs)):
            yield [guest for pair in pairs[start::stride] for guest in reversed(pair)]


def many_gatherings():
    """Every list of up to five guests, and some of eight, each with its number of guests."""
    for n in range(1, 6):
        for l in every_list(n):
            yield n, l
    for l in some_lists_of_eight():
        yield 8, l


def pairs_of(l):
    return frozenset(frozenset(l[at:at + 2]) for at in range(0, len(l), 2))


def who_can_be(n, met):
    """All two who don't know one another and have somebody in common, the first two first."""
    strangers = [
        frozenset(two) for two in itertools.combinations(range(n), 2) if frozenset(two) not in met
    ]
    return [
        two for two in strangers
        if any(all(frozenset((third, guest)) in met for guest in two) for third in set(range(n)) - two)
    ]


def met_in_a_round(n, met):
    return met.union(who_can_be(n, met))


def one_by_one(n, met, place=0):
    """Who is introduced, one by one; place tells which two of those who can be, by default the first."""
    introductions = []
    can_be = who_can_be(n, met)
    while can_be:
        introductions.append(can_be[place])
        met = met | {can_be[place]}
        can_be = who_can_be(n, met)
    return introductions


def steps_from(n, met, start):
    """How many steps it is to each guest to whom there are any."""
    steps = {start: 0}
    waiting = [start]
    for guest in waiting:
        for other in range(n):
            if frozenset((guest, other)) in met and other not in steps:
                steps[other] = steps[guest] + 1
                waiting.append(other)
    return steps


def groups_of(n, met):
    return {frozenset(steps_from(n, met, guest)) for guest in range(n)}


def bits_of(n, met):
    """Whom each guest knows, as bits."""
    return [sum(1 << other for other in range(n) if frozenset((guest, other)) in met) for guest in range(n)]


def met_by_bits(bits):
    """The pairs that such bits tell."""
    return frozenset(
        frozenset((guest, other))
        for guest in range(len(bits)) for other in range(len(bits)) if bits[guest] >> other & 1
    )
