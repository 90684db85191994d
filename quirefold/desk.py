"""The calls on gatherings.

A gathering is a list of signs: 1 a leaf alone, 2 and 3 the first and the second leaf of a pair,
4 and 5 a stub in the place of such a leaf. Each call answers a list of whole numbers; a refusal is
one number below 0.
"""

MOST_PLACES = 21

LEAST_SIGN = 1
ALONE = 1
FIRST_LEAF = 2
SECOND_LEAF = 3
FIRST_STUB = 4
SECOND_STUB = 5
FIRST_SIGNS = (2, 4)
SECOND_SIGNS = (3, 5)
LEAF_SIGNS = (1, 2, 3)
STUB_SIGNS = (4, 5)

# Each sign, and what it is when the gathering is turned.
TURNED = {1: 1, 2: 3, 3: 2, 4: 5, 5: 4}
# A leaf that has a partner, and the stub that is left of it; and back again.
STUB_OF_LEAF = {2: 4, 3: 5}
LEAF_ON_STUB = {4: 2, 5: 3}

# How many signs may be the partner of a first sign, and so how many kinds of pairs there are.
PARTNERS_OF_FIRST = {2: 2, 4: 1}
KINDS_OF_PAIRS = 3

# The bytes of the text, in the order of their signs' numbers: | ( ) [ ]
SIGN_BYTES = (0x7C, 0x28, 0x29, 0x5B, 0x5D)
NO_SIGN = 0

NO_GATHERING = -1
NOT_POSSIBLE = -2
STUB_THERE = -3


def may_be_partners(first, second):
    # Two stubs would be a sheet of which no leaf is left.
    return first != FIRST_STUB or second != SECOND_STUB


def waiting_after(waiting, sign):
    # The first signs that still wait for a partner behind this sign; None if it can't stand there.
    if sign == ALONE:
        return waiting
    if sign in FIRST_SIGNS:
        return waiting + [sign]
    # Pairs never cross, so a second partner can only belong to the latest first one that waits.
    if sign in SECOND_SIGNS and len(waiting) > 0 and may_be_partners(waiting[-1], sign):
        return waiting[:-1]
    return None


def is_paired(signs):
    waiting = []
    for sign in signs:
        waiting = waiting_after(waiting, sign)
        if waiting is None:
            return False
    return len(waiting) == 0


def is_gathering(g):
    return len(g) <= MOST_PLACES and is_paired(g)


def leaf_places(g):
    return [place for place, sign in enumerate(g) if sign in LEAF_SIGNS]


def partner_places(g):
    # A leaf alone counts as its own partner.
    partners = list(range(len(g)))
    waiting = []
    for place, sign in enumerate(g):
        if sign in FIRST_SIGNS:
            waiting.append(place)
        elif sign in SECOND_SIGNS:
            first = waiting.pop()
            partners[first] = place
            partners[place] = first
    return partners


def stands_at(g, p, signs):
    return p < len(g) and g[p] in signs


def with_sign(g, p, sign):
    return g[:p] + [sign] + g[p + 1:]


def without_places(g, places):
    return [sign for place, sign in enumerate(g) if place not in places]


def without_leaf(g, p):
    partner = partner_places(g)[p]
    if g[partner] in STUB_SIGNS:
        return without_places(g, [p, partner])
    # A leaf alone is its own partner: it goes in any case.
    return without_places(with_sign(g, partner, ALONE), [p])


def with_leaf_cut(g, p):
    partner = partner_places(g)[p]
    if partner == p or g[partner] in STUB_SIGNS:
        return without_leaf(g, p)
    return with_sign(g, p, STUB_OF_LEAF[g[p]])


def with_sheet(g, p, q):
    return g[:p] + [FIRST_LEAF] + g[p:q] + [SECOND_LEAF] + g[q:]


def are_two_alone(g, p, q):
    return p < q and stands_at(g, p, [ALONE]) and stands_at(g, q, [ALONE])


def ends_with_a_place_more(ends):
    # The place holds a leaf alone, the end of the pair that waits last, or the beginning of a new one.
    more = []
    for waiting in range(MOST_PLACES + 1):
        ways = ends[waiting]
        if waiting > 0:
            ways += ends[waiting - 1]
        if waiting < MOST_PLACES:
            ways += KINDS_OF_PAIRS * ends[waiting + 1]
        more.append(ways)
    return more


def ends_by_places(n):
    # ends[m][w]: how many rows of m signs end well where w wait for a partner of which the sign is settled.
    ends = [[1] + [0] * MOST_PLACES]
    for places in range(n):
        ends.append(ends_with_a_place_more(ends[places]))
    return ends


def rows_behind(waiting, sign, ends):
    # How many rows of signs end well behind this sign; ends is of as many places as are left behind it.
    still_waiting = waiting_after(waiting, sign)
    if still_waiting is None:
        return 0
    ways = ends[len(still_waiting)]
    for first in still_waiting:
        ways *= PARTNERS_OF_FIRST[first]
    return ways


def sign_of_byte(byte):
    if byte not in SIGN_BYTES:
        return NO_SIGN
    return SIGN_BYTES.index(byte) + LEAST_SIGN


def with_how_many(numbers):
    return [len(numbers)] + numbers


def is_one(g):
    return [1 if is_gathering(g) else 0]


def leaves(g):
    if not is_gathering(g):
        return [NO_GATHERING]
    return [len(leaf_places(g))]


def leaf(k, g):
    if not is_gathering(g):
        return [NO_GATHERING]
    places = leaf_places(g)
    if k >= len(places):
        return [NOT_POSSIBLE]
    return [places[k]]


def which(p, g):
    if not is_gathering(g):
        return [NO_GATHERING]
    if p >= len(g):
        return [NOT_POSSIBLE]
    if g[p] not in LEAF_SIGNS:
        return [STUB_THERE]
    return [leaf_places(g).index(p)]


def mate(p, g):
    if not is_gathering(g):
        return [NO_GATHERING]
    if p >= len(g):
        return [NOT_POSSIBLE]
    return [partner_places(g)[p]]


def depth(p, g):
    if not is_gathering(g):
        return [NO_GATHERING]
    if p >= len(g):
        return [NOT_POSSIBLE]
    partners = partner_places(g)
    return [len([first for first in range(p) if partners[first] > p])]


def where(s, g):
    if not is_gathering(g):
        return [NO_GATHERING]
    return with_how_many([place for place, sign in enumerate(g) if sign == s])


def turn(g):
    if not is_gathering(g):
        return [NO_GATHERING]
    return with_how_many([TURNED[sign] for sign in reversed(g)])


def lose(p, g):
    if not is_gathering(g):
        return [NO_GATHERING]
    if not stands_at(g, p, LEAF_SIGNS):
        return [NOT_POSSIBLE]
    return with_how_many(without_leaf(g, p))


def cut(p, g):
    if not is_gathering(g):
        return [NO_GATHERING]
    if not stands_at(g, p, LEAF_SIGNS):
        return [NOT_POSSIBLE]
    return with_how_many(with_leaf_cut(g, p))


def mend(p, g):
    if not is_gathering(g):
        return [NO_GATHERING]
    if not stands_at(g, p, STUB_SIGNS):
        return [NOT_POSSIBLE]
    return with_how_many(with_sign(g, p, LEAF_ON_STUB[g[p]]))


def single(p, g):
    if not is_gathering(g):
        return [NO_GATHERING]
    if p > len(g) or len(g) == MOST_PLACES:
        return [NOT_POSSIBLE]
    return with_how_many(g[:p] + [ALONE] + g[p:])


def sheet(p, q, g):
    if not is_gathering(g):
        return [NO_GATHERING]
    if p > q or q > len(g) or len(g) + 2 > MOST_PLACES:
        return [NOT_POSSIBLE]
    if not is_paired(g[p:q]):
        return [NOT_POSSIBLE]
    return with_how_many(with_sheet(g, p, q))


def join(p, q, g):
    if not is_gathering(g):
        return [NO_GATHERING]
    if not are_two_alone(g, p, q) or not is_paired(g[p + 1:q]):
        return [NOT_POSSIBLE]
    return with_how_many(with_sign(with_sign(g, p, FIRST_LEAF), q, SECOND_LEAF))


def count(n):
    if n > MOST_PLACES:
        return [NOT_POSSIBLE]
    return [ends_by_places(n)[n][0]]


def rank(g):
    if not is_gathering(g):
        return [NO_GATHERING]
    ends = ends_by_places(len(g))
    before = 0
    waiting = []
    for place, sign in enumerate(g):
        for lesser in range(LEAST_SIGN, sign):
            before += rows_behind(waiting, lesser, ends[len(g) - 1 - place])
        waiting = waiting_after(waiting, sign)
    return [before]


def at(n, k):
    if n > MOST_PLACES:
        return [NOT_POSSIBLE]
    ends = ends_by_places(n)
    if k >= ends[n][0]:
        return [NOT_POSSIBLE]
    signs = []
    waiting = []
    before = k
    for place in range(n):
        sign = LEAST_SIGN
        rows = rows_behind(waiting, sign, ends[n - 1 - place])
        while before >= rows:
            before -= rows
            sign += 1
            rows = rows_behind(waiting, sign, ends[n - 1 - place])
        signs.append(sign)
        waiting = waiting_after(waiting, sign)
    return with_how_many(signs)


def print_of(g):
    if not is_gathering(g):
        return [NO_GATHERING]
    return with_how_many([SIGN_BYTES[sign - LEAST_SIGN] for sign in g])


def read(t):
    signs = [sign_of_byte(byte) for byte in t]
    if not is_gathering(signs):
        return [NOT_POSSIBLE]
    return with_how_many(signs)
