"""Worlds: what can be one, what a meeting gives, and what meetings come to."""

from heavierhall.errors import BadMeeting, BadWorld

FEWEST_THINGS = 2
MOST_THINGS = 6
HEAVIEST = 30
MOST_MEETINGS = 200


def met(world, meetings):
    """The weights behind these meetings."""
    check_world(world)
    check_meetings(world[1], meetings)
    return onward(world, world[0], meetings)


def gifts(world, meetings):
    """What each of these meetings gives, (giver, taker, how much), or None."""
    check_world(world)
    weights, pairs, rule = world
    check_meetings(pairs, meetings)
    given = []
    for place in meetings:
        present = gift(weights, pairs[place], rule)
        given.append(present)
        weights = behind(weights, present)
    return given


def onward(world, weights, meetings):
    """The weights behind these meetings, from these weights on."""
    _, pairs, rule = world
    for place in meetings:
        weights = behind(weights, gift(weights, pairs[place], rule))
    return weights


def gift(weights, pair, rule):
    """What this pair gives when it meets, (giver, taker, how much), or None."""
    one, other = pair
    if weights[one] == weights[other]:
        return None
    giver, taker = (one, other) if weights[one] > weights[other] else (other, one)
    many = amount(rule, weights[giver], weights[taker])
    if many == 0:
        return None
    return giver, taker, many


def amount(rule, heavy, light):
    """How much the heavier of two unlike ones gives by this rule."""
    if rule[0] == "some":
        return min(rule[1], heavy)
    if rule[0] == "half":
        return (heavy - light) // 2
    if rule[0] == "even":
        return (heavy - light + 1) // 2
    return heavy * rule[1] // rule[2]


def behind(weights, present):
    """The weights behind what a meeting gave."""
    if present is None:
        return weights
    giver, taker, many = present
    moved = list(weights)
    moved[giver] -= many
    moved[taker] += many
    return tuple(moved)


def check_world(world):
    """Refuses what is no world."""
    weights, pairs, rule = world
    check_weights(weights)
    check_pairs(pairs, len(weights))
    check_rule(rule)


def check_weights(weights):
    """Refuses what a world can't have as its weights."""
    for number, weight in enumerate(weights):
        if number == MOST_THINGS or not 0 <= weight <= HEAVIEST:
            raise BadWorld(part=0, number=number)
    if len(weights) < FEWEST_THINGS:
        raise BadWorld(part=0, number=len(weights))


def check_pairs(pairs, things):
    """Refuses what a world of so many things can't have as its pairs."""
    # Six things make just fifteen pairs: one pair too many is always one that can't be, or is there already.
    seen = set()
    for number, pair in enumerate(pairs):
        if not is_pair(pair, things) or pair in seen:
            raise BadWorld(part=1, number=number)
        seen.add(pair)


def is_pair(pair, things):
    """Whether this is (one, other), things of so many, the lesser number first."""
    return len(pair) == 2 and 0 <= pair[0] < pair[1] < things


def check_rule(rule):
    """Refuses what is no rule."""
    if not is_rule(rule):
        raise BadWorld(part=2, number=0)


def is_rule(rule):
    """Whether a tuple of any kind is a rule."""
    if rule == ("half",) or rule == ("even",):
        return True
    if len(rule) == 2 and rule[0] == "some":
        return is_figure(rule[1])
    if len(rule) == 3 and rule[0] == "part":
        return is_figure(rule[1]) and is_figure(rule[2]) and rule[1] <= rule[2]
    return False


def is_figure(value):
    """Whether a value of any kind is a number 1 to 9."""
    # Python takes True for 1, but a rule has numbers only.
    return isinstance(value, int) and not isinstance(value, bool) and 1 <= value <= 9


def check_meetings(pairs, meetings):
    """Refuses what are no meetings by these pairs, or too many."""
    for number, place in enumerate(meetings):
        if number == MOST_MEETINGS or not 0 <= place < len(pairs):
            raise BadMeeting(number=number)
