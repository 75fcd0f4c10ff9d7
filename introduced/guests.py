"""Guests, who knows whom among them, and who is introduced, round by round.

Whom the guests know is kept as a list of bits, one number a guest: bit 0 stands
for guest 0. No guest's own bit is ever set.
"""

MOST_GUESTS = 8
MOST_PAIRS = 28
MOST_ROUNDS = 5
REFUSED = -22
NO_SUCH_GUEST = -2
NO_STEPS = -33


def after(n, k, l):
    """How many pairs know one another behind k rounds, then whom each guest knows."""
    if not is_as_told(n, l) or k < 0 or k > MOST_ROUNDS:
        return [REFUSED]
    known = acquaintances(n, l)
    for turn in range(k):
        known = behind_a_round(known)
    return [how_many_pairs(known)] + known


def rounds(n, l):
    """Behind how many rounds nobody can be introduced, how many groups, how many introductions."""
    if not is_as_told(n, l):
        return [REFUSED]
    known = acquaintances(n, l)
    return [how_many_rounds(known), how_many_groups(known), len(one_by_one(known))]


def far(n, i, j, l):
    """How many steps it is from i to j, then behind how many rounds they know one another."""
    if not is_as_told(n, l):
        return [REFUSED]
    if not is_a_guest(n, i) or not is_a_guest(n, j):
        return [NO_SUCH_GUEST]
    known = acquaintances(n, l)
    if not is_among(group_of(known, i), j):
        return [NO_STEPS]
    return [how_many_steps(known, i, j), how_many_rounds_till(known, i, j)]


def one(n, l):
    """How many introductions it takes one by one, then the two of each, the lesser first."""
    if not is_as_told(n, l):
        return [REFUSED]
    introductions = one_by_one(acquaintances(n, l))
    answer = [len(introductions)]
    for two in introductions:
        answer.extend(two)
    return answer


def is_as_told(n, pairs):
    """Whether there are 1 to 8 guests, and the pairs are theirs."""
    if n < 1 or n > MOST_GUESTS:
        return False
    # Told pairs are counted with their repeats, so the length alone decides.
    if len(pairs) % 2 != 0 or len(pairs) > 2 * MOST_PAIRS:
        return False
    for place in range(0, len(pairs), 2):
        if not is_a_pair(n, pairs[place], pairs[place + 1]):
            return False
    return True


def is_a_pair(n, guest, other):
    """Whether the two are different ones of n guests."""
    return is_a_guest(n, guest) and is_a_guest(n, other) and guest != other


def is_a_guest(n, guest):
    """Whether there is such a guest among n."""
    return guest >= 0 and guest < n


def acquaintances(n, pairs):
    """Whom each of n guests knows by the pairs told."""
    known = [0] * n
    for place in range(0, len(pairs), 2):
        acquaint(known, pairs[place], pairs[place + 1])
    return known


def acquaint(known, guest, other):
    """Let the two know one another from now on."""
    known[guest] = known[guest] | (1 << other)
    known[other] = known[other] | (1 << guest)


def behind_a_round(known):
    """Whom each guest knows when all who can be have been introduced, at once."""
    # Built apart, so that nobody introduced in this round counts as an acquaintance in it.
    later = []
    for guest in range(len(known)):
        later.append(known[guest] | introduced_to(known, guest))
    return later


def introduced_to(known, guest):
    """All to whom the guest can be introduced, as bits."""
    bits = 0
    for other in range(len(known)):
        if can_be_introduced(known, guest, other):
            bits = bits | (1 << other)
    return bits


def can_be_introduced(known, guest, other):
    """Whether the two don't know one another, and have somebody in common."""
    if guest == other or know_one_another(known, guest, other):
        return False
    return (known[guest] & known[other]) != 0


def first_two(known):
    """The first two who can be introduced, the lesser first; () if nobody can be."""
    for guest in range(len(known)):
        for other in range(guest + 1, len(known)):
            if can_be_introduced(known, guest, other):
                return (guest, other)
    return ()


def know_one_another(known, guest, other):
    """Whether the two are acquainted."""
    return is_among(known[guest], other)


def is_among(bits, guest):
    """Whether the guest is one of those in the bits."""
    return ((bits >> guest) & 1) == 1


def how_many_pairs(known):
    """How many pairs know one another, each of them once."""
    number = 0
    for guest in range(len(known)):
        for other in range(guest):
            if know_one_another(known, guest, other):
                number = number + 1
    return number


def how_many_rounds(known):
    """Behind how many rounds nobody can be introduced any more."""
    number = 0
    later = known
    while first_two(later) != ():
        later = behind_a_round(later)
        number = number + 1
    return number


def how_many_steps(known, guest, other):
    """How many steps it is between two of one group, 0 to oneself."""
    number = 0
    bits = 1 << guest
    while not is_among(bits, other):
        bits = a_step_further(known, bits)
        number = number + 1
    return number


def how_many_rounds_till(known, guest, other):
    """Behind how many rounds at least two of one group know one another, or are the same."""
    number = 0
    later = known
    while guest != other and not know_one_another(later, guest, other):
        later = behind_a_round(later)
        number = number + 1
    return number


def one_by_one(known):
    """Who is introduced, one by one, till nobody can be: of each two the lesser first."""
    later = list(known)
    introductions = []
    two = first_two(later)
    while two != ():
        introductions.append(two)
        acquaint(later, two[0], two[1])
        two = first_two(later)
    return introductions


def how_many_groups(known):
    """How many groups there are; a guest who knows nobody is one."""
    grouped = 0
    number = 0
    for guest in range(len(known)):
        if not is_among(grouped, guest):
            grouped = grouped | group_of(known, guest)
            number = number + 1
    return number


def group_of(known, guest):
    """All to whom there are steps from the guest, himself too, as bits."""
    bits = 1 << guest
    wider = a_step_further(known, bits)
    while wider != bits:
        bits = wider
        wider = a_step_further(known, bits)
    return bits


def a_step_further(known, bits):
    """Those of the bits and all whom they know, as bits."""
    wider = bits
    for guest in range(len(known)):
        if is_among(bits, guest):
            wider = wider | known[guest]
    return wider
