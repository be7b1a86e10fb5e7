"""What the tests share: worlds, and slow answers to hold the program's against.

The slow answers are found by other means than the program's: by sets that grow until they stand,
and by distances that shrink until they stand.
"""

from fractions import Fraction
from itertools import combinations
from math import ceil, floor

ALL_RULES = (
    [("some", many) for many in range(1, 10)]
    + [("half",), ("even",)]
    + [("part", top, under) for under in range(1, 10) for top in range(1, under + 1)]
)

# One round at once, one behind a meeting, none with several ends, none with one end, and no change at all.
SWAP = ((1, 0), ((0, 1),), ("even",))
LATE_ROUND = ((3, 0), ((0, 1),), ("even",))
ROUND_AND_END = ((2, 1, 0), ((0, 1), (0, 2)), ("even",))
THREE_ENDS = ((4, 0, 0), ((0, 1), (0, 2), (1, 2)), ("half",))
ONE_END = ((8, 0, 1), ((0, 1), (1, 2)), ("half",))
STILL = ((3, 3, 3), ((0, 1), (1, 2)), ("some", 4))
NO_PAIRS = ((5, 1, 0), (), ("even",))

# Found by search: these come to just so many weights.
COMES_TO_3000 = ((19, 23, 19, 17), ((0, 1), (0, 2), (2, 3), (0, 3), (1, 2), (1, 3)), ("part", 2, 9))
COMES_TO_3001 = ((15, 22, 13, 28, 10), ((2, 3), (0, 2), (1, 4), (2, 4), (1, 2)), ("even",))
COMES_TO_MORE = ((30, 30, 30, 30, 30, 0), tuple(combinations(range(6), 2)), ("some", 1))

BAD_WORLDS = [
    # (weights, pairs, rule), part, number
    (((), (), ("half",)), 0, 0),
    (((4,), (), ("half",)), 0, 1),
    (((31,), (), ("half",)), 0, 0),
    (((1, 2, 3, 4, 5, 6, 7), (), ("half",)), 0, 6),
    (((1, 2, 3, 4, 5, 6, 7, -1), (), ("half",)), 0, 6),
    (((1, 2, -1, 4, 5, 6, 7), (), ("half",)), 0, 2),
    (((-1, 2), (), ("half",)), 0, 0),
    (((1, -1), (), ("half",)), 0, 1),
    (((1, 31), (), ("half",)), 0, 1),
    (((1, 2, 31, -1), (), ("half",)), 0, 2),
    (((1, 2), ((0, 0),), ("half",)), 1, 0),
    (((1, 2), ((1, 0),), ("half",)), 1, 0),
    (((1, 2), ((0, 2),), ("half",)), 1, 0),
    (((1, 2), ((-1, 1),), ("half",)), 1, 0),
    (((1, 2, 3), ((0, 1), (0, 1, 2)), ("half",)), 1, 1),
    (((1, 2, 3), ((0,), (0, 1)), ("half",)), 1, 0),
    (((1, 2, 3), ((),), ("half",)), 1, 0),
    (((1, 2, 3), ((0, 1), (1, 2), (0, 3)), ("half",)), 1, 2),
    (((1, 2, 3), ((0, 1), (1, 2), (0, 1)), ("half",)), 1, 2),
    (((1, 2, 3), ((0, 1), (0, 1), (2, 1)), ("half",)), 1, 1),
    (((1, 2, 3), ((2, 1), (0, 1), (0, 1)), ("half",)), 1, 0),
    (((1, 2, 3, 4, 5, 6), tuple(combinations(range(6), 2)) + ((0, 1),), ("half",)), 1, 15),
    (((1, 2, 3, 4, 5, 6), tuple(combinations(range(6), 2)) + ((5, 6), (0, 1)), ("half",)), 1, 15),
    (((1, 31), ((0, 0),), ("half", 1)), 0, 1),
    (((4,), ((0, 1),), ()), 0, 1),
    (((1, 2), ((0, 0),), ()), 1, 0),
    (((1, 2, 3), ((0, 1), (0, 1)), ("most",)), 1, 1),
]

NO_RULES = [
    (), ("some",), ("some", 0), ("some", 10), ("some", -1), ("some", 1, 1), ("some", "1"), ("some", (1,)),
    ("some", None), ("some", True), ("half", 1), ("even", 2), ("even", "half"), ("half", "even"), ("most",), ("",),
    ("part",), ("part", 1), ("part", 0, 1), ("part", 1, 0), ("part", 2, 1), ("part", 9, 8), ("part", 1, 10),
    ("part", 10, 10), ("part", 0, 0), ("part", -1, 2), ("part", 1, 2, 3), ("part", "1", 2), ("part", 1, "2"),
    ("part", True, 2), ("part", 1, True), ("Half",), (1,), (1, 2), (1, 2, 3), (None,), ((),), (("half",),),
    ("half", "half"), (3, "some"), ("half ",), ("some 3",),
]


def gift(world, weights, place):
    """What the meeting at this place gives, as the document's words go."""
    pair = world[1][place]
    heavy = max(pair, key=lambda thing: weights[thing])
    light = min(pair, key=lambda thing: weights[thing])
    apart = weights[heavy] - weights[light]
    if apart == 0:
        return None
    word, *numbers = world[2]
    much = {
        "some": lambda: numbers[0] if weights[heavy] >= numbers[0] else weights[heavy],
        "half": lambda: floor(Fraction(apart, 2)),
        "even": lambda: ceil(Fraction(apart, 2)),
        "part": lambda: floor(weights[heavy] * Fraction(numbers[0], numbers[1])),
    }[word]()
    return (heavy, light, much) if much else None


def step(world, weights, place):
    """The weights behind the meeting at this place."""
    present = gift(world, weights, place)
    if present is None:
        return weights
    heavy, light, much = present
    moved = {heavy: -much, light: much}
    return tuple(weight + moved.get(thing, 0) for thing, weight in enumerate(weights))


def table(world):
    """{weights: [weights behind each place]} of all that the world comes to."""
    steps = {}
    fresh = {world[0]}
    while fresh:
        for weights in fresh:
            steps[weights] = [step(world, weights, place) for place in range(len(world[1]))]
        fresh = {after for weights in fresh for after in steps[weights]} - set(steps)
    return steps


def changes(steps, weights):
    """(place, weights behind it) of each change there is at these weights."""
    return [(place, after) for place, after in enumerate(steps[weights]) if after != weights]


def slow_way(world, steps, wanted):
    """The fewest meetings to some of the wanted weights, of such the first; None, if there are none."""
    distance = {weights: 0 for weights in wanted if weights in steps}
    moving = True
    while moving:
        moving = False
        for weights, behind in steps.items():
            for after in behind:
                if after in distance and distance.get(weights, distance[after] + 2) > distance[after] + 1:
                    distance[weights] = distance[after] + 1
                    moving = True
    if world[0] not in distance:
        return None
    weights, places = world[0], []
    while distance[weights]:
        place = next(at for at, after in enumerate(steps[weights])
                     if distance.get(after, distance[weights]) < distance[weights])
        places.append(place)
        weights = steps[weights][place]
    return places


def slow_round(steps):
    """Whether some weights are come to from themselves by changes: these are what is left when ends are taken off."""
    left = set(steps)
    while True:
        gone = {weights for weights in left if not any(after in left for _, after in changes(steps, weights))}
        if not gone:
            return bool(left)
        left -= gone


def slow_longest(steps, weights, known):
    """The most changes from these weights, of such the first; only where there's no round."""
    if weights not in known:
        best = []
        for place, after in changes(steps, weights):
            more = [place] + slow_longest(steps, after, known)
            if len(more) > len(best):
                best = more
        known[weights] = best
    return known[weights]


def slow_trail(world, turns):
    """(the weights behind 0, 1, 2 .. meetings, till all comes again; behind how many it had been so)."""
    weights, place, trail, seen = world[0], 0, [], {}
    while (weights, place) not in seen:
        seen[weights, place] = len(trail)
        trail.append(weights)
        weights, place = step(world, weights, turns[place]), (place + 1) % len(turns)
    return trail, seen[weights, place]


def slow_forced(steps, wished):
    """Two of {weights: in how many meetings}: when the wishing hand is on, and when the other one is.

    By the words: of all weights it's asked again and again what can be forced in so many meetings.
    """
    mine = {weights: 0 for weights in wished}
    other = dict(mine)
    number, last = 0, 0
    while number - last < 3:
        number += 1
        by_one = {weights for weights, rows in steps.items() if any(after in other for after in rows)}
        by_all = {weights for weights, rows in steps.items() if rows and all(after in mine for after in rows)}
        for known, found in ((mine, by_one), (other, by_all)):
            for weights in found - set(known):
                known[weights] = number
                last = number
    return mine, other


def many_worlds():
    """Small worlds of all kinds, the same ones each time."""
    two = [(3, 0), (0, 7), (1, 0), (4, 4), (9, 2)]
    three = [(4, 0, 0), (2, 1, 0), (1, 3, 5), (0, 6, 1), (2, 2, 2)]
    four = [(3, 0, 2, 1), (0, 0, 0, 5)]
    links = {
        2: [(), ((0, 1),)],
        3: [((0, 1), (1, 2)), ((1, 2), (0, 2), (0, 1)), ((0, 2),)],
        4: [((2, 3), (0, 1), (1, 2)), ((0, 3), (0, 1), (0, 2), (1, 3))],
    }
    rules = [
        ("some", 1), ("some", 2), ("some", 5), ("some", 9), ("half",), ("even",),
        ("part", 1, 1), ("part", 1, 2), ("part", 2, 3), ("part", 1, 4), ("part", 1, 9), ("part", 5, 9),
    ]
    return [
        (weights, pairs, rule)
        for weights in two + three + four
        for pairs in links[len(weights)]
        for rule in rules
    ]


def refusal(error, call, *told):
    """The error of this very class that the call raises."""
    try:
        answer = call(*told)
    except error as refused:
        assert refused.__class__ is error, refused
        return refused
    raise AssertionError(f"not refused: {call.__name__}{told!r} told {answer!r}")
