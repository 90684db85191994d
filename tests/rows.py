"""What the tests share: rows written as texts, and the document's words as a slow second program."""

import itertools

SIGNS = {"|": 1, "(": 2, ")": 3, "[": 4, "]": 5}

LARGEST = 2147483647
LARGEST_NUMBER_OF_ALL = 9007199254740991


def row(text):
    return [SIGNS[mark] for mark in text]


def bytes_of(text):
    return list(text.encode("ascii"))


# Text, then the places of its leaves.
GATHERINGS = [
    ("", []),
    ("|", [0]),
    ("|||", [0, 1, 2]),
    ("()", [0, 1]),
    ("[)", [1]),
    ("(]", [0]),
    ("()()", [0, 1, 2, 3]),
    ("(())", [0, 1, 2, 3]),
    ("[)(]", [1, 2]),
    ("(][)", [0, 3]),
    ("([))", [0, 2, 3]),
    ("((])", [0, 1, 3]),
    ("[())", [1, 2, 3]),
    ("(()]", [0, 1, 2]),
    ("[(])", [1, 3]),
    ("([)]", [0, 2]),
    ("[[))", [2, 3]),
    ("((]]", [0, 1]),
    ("|[|)|", [0, 2, 3, 4]),
    ("(|(|)|[|))|", [0, 1, 2, 3, 4, 5, 7, 8, 9, 10]),
    ("([(|]))(]|[)", [0, 2, 3, 5, 6, 7, 9, 11]),
    ("(" * 9 + "|" + "]" * 9, list(range(10))),
    ("(" * 10 + ")" * 10, list(range(20))),
    ("[)" * 10, list(range(1, 20, 2))),
    ("|" * 21, list(range(21))),
    ("(" * 10 + "|" + ")" * 10, list(range(21))),
    ("[" * 10 + "|" + ")" * 10, list(range(10, 21))),
    ("(" * 10 + "|" + "]" * 10, list(range(11))),
    ("(][)" * 5 + "|", [0, 3, 4, 7, 8, 11, 12, 15, 16, 19, 20]),
]

NO_GATHERINGS = [
    # A partner missing.
    row("("), row(")"), row("["), row("]"),
    row(")("), row("]("), row(")["), row("]["),
    row("(()"), row("())"), row("[|"), row("|]"),
    row("())("), row("|)(|"), row("()[)("),
    row("(" * 21), row(")" * 21),
    row("(" * 9 + "(|" + ")" * 9), row("(" * 9 + "|)" + ")" * 9),
    # A stub paired with a stub.
    row("[]"), row("[|]"), row("[()]"), row("()[]"), row("[]()"),
    row("([])"), row("[[)]"), row("[(]]"), row("(([|]))"),
    row("(" * 9 + "[|]" + ")" * 9), row("([(])|(" + "[]" + "))"),
    # Numbers that are no signs.
    [0], [6], [LARGEST], [1, 0], [0, 1], [1, 6, 1], [2, 0, 3], [2, 6, 3], [2, LARGEST, 3],
    [2, 3, 6], [6, 2, 3], [2, 1, 7], [8, 1, 3], [0] * 21, [2, 2, 1, 0, 3, 3],
    # More than 21 places.
    row("|" * 22), row("()" * 11), row("(" * 11 + ")" * 11), row("[)" * 11),
    row("|" * 64), row("()" * 32), row("(" * 32 + ")" * 32), row("(" * 64),
    [0] * 64, [6] * 64, [LARGEST] * 64,
]

NO_TEXTS = [
    # Bytes that are no signs.
    [0], [255], [1], [5], [123], [125], [39], [42], [90], [92], [94], bytes_of("()\n"), bytes_of(" ()"),
    bytes_of("(0)"), bytes_of("{}"), bytes_of("<>"), [40, 0, 41], [124, 255], [0] * 21, [255] * 64,
    # Signs' numbers are no bytes of a text.
    [1], [2, 3], [4, 1, 3], [1] * 21,
    # Not paired.
    bytes_of("("), bytes_of(")"), bytes_of("["), bytes_of("]"), bytes_of(")("), bytes_of("[]"), bytes_of("[|]"),
    bytes_of("(()"), bytes_of("())"), bytes_of("([])"), bytes_of("(" * 21), bytes_of("(" * 10 + ")" * 11),
    # More than 21 bytes.
    bytes_of("|" * 22), bytes_of("()" * 11), bytes_of("[)" * 11), bytes_of("|" * 64), bytes_of("()" * 32),
    bytes_of("(" * 64),
]


def paired(signs, known):
    """Is the row paired within itself: the document's words, by trying every partner of the first."""
    if signs == ():
        return True
    if signs not in known:
        known[signs] = first_fits(signs, known)
    return known[signs]


def first_fits(signs, known):
    if signs[0] == 1:
        return paired(signs[1:], known)
    if signs[0] not in (2, 4):
        return False
    for place in range(1, len(signs)):
        if signs[place] in (3, 5) and (signs[0], signs[place]) != (4, 5):
            if paired(signs[1:place], known) and paired(signs[place + 1:], known):
                return True
    return False


def gatherings_of(places):
    """All gatherings of so many places, in order: every row of that length is tried."""
    known = {}
    return [list(signs) for signs in itertools.product(range(1, 6), repeat=places) if paired(signs, known)]


def gatherings_up_to(most):
    return [signs for places in range(most + 1) for signs in gatherings_of(places)]


def pairs_of(signs):
    """The two places of each pair, by the document's words: what stands between them is paired within itself."""
    known = {}
    return [
        (first, second)
        for first, second in itertools.combinations(range(len(signs)), 2)
        if signs[first] in (2, 4) and signs[second] in (3, 5) and paired(tuple(signs[first + 1:second]), known)
    ]


def gatherings_to_try():
    return [row(text) for text, places in GATHERINGS] + gatherings_up_to(6)


def ends_well(waiting, places, known):
    """How many rows of so many signs end well where these wait, the last of them first for a partner."""
    if len(waiting) > places:
        return 0
    if places == 0:
        return 1
    if (waiting, places) not in known:
        ways = ends_well(waiting, places - 1, known)
        for first in (2, 4):
            ways += ends_well(waiting + (first,), places - 1, known)
        if waiting != ():
            partners = 2 if waiting[-1] == 2 else 1
            ways += partners * ends_well(waiting[:-1], places - 1, known)
        known[waiting, places] = ways
    return known[waiting, places]


def partner_of(place, signs):
    """The place of its partner; None for a leaf alone."""
    for pair in pairs_of(signs):
        if place in pair:
            return sum(pair) - place
    return None
