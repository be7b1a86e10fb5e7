"""What a world can come to: all weights, its ends, the way to a wish, and papers that bar one."""

from heavierhall.errors import BadPaper, BadWish, TooMany
from heavierhall.worlds import behind, check_world, gift

MOST_REACHED = 3000


def reached(world):
    """All weights that the world comes to, rising."""
    check_world(world)
    return sorted(explored(world))


def ends(world):
    """(weights, the way to them) of all weights at which no meeting gives anything, rising."""
    check_world(world)
    found = explored(world)
    return [(weights, traced(found, weights)) for weights in sorted(found) if not changes(world, weights)]


def way(world, wish):
    """The fewest meetings behind which the weights are as wished, of such the first; None, if there are none."""
    check_world(world)
    check_wish(world, wish)
    found = explored(world)
    for weights in found:
        if is_wished(weights, wish):
            return traced(found, weights)
    return None


def bars(world, rows, wish):
    """Whether these weights show that the world never comes to its wish."""
    check_world(world)
    check_papers(world, rows)
    check_wish(world, wish)
    there = set(rows)
    if world[0] not in there:
        return False
    for row in rows:
        if is_wished(row, wish):
            return False
        for _, after in changes(world, row):
            if after not in there:
                return False
    return True


def changes(world, weights):
    """(place, weights behind it) of each meeting that gives something at these weights, as places go."""
    _, pairs, rule = world
    found = []
    for place, pair in enumerate(pairs):
        present = gift(weights, pair, rule)
        if present is not None:
            found.append((place, behind(weights, present)))
    return found


def explored(world):
    """{weights: (weights before, place)} of all that the world comes to, None for its own.

    The keys stand by their ways: fewer meetings first, and of as many the first as places go.
    So the first step that finds weights is the last one of the way to them.
    """
    found = {world[0]: None}
    level = [world[0]]
    while level:
        later = []
        for before in level:
            for place, after in changes(world, before):
                if after not in found:
                    found[after] = (before, place)
                    later.append(after)
            if len(found) > MOST_REACHED:
                raise TooMany(f"more than {MOST_REACHED} weights")
        level = later
    return found


def traced(found, weights):
    """The way to these weights, by what explored told."""
    places = []
    while found[weights] is not None:
        weights, place = found[weights]
        places.append(place)
    places.reverse()
    return places


def is_wished(weights, wish):
    """Whether each thing of the wish has what is wished."""
    return all([low <= weights[thing] <= high for thing, low, high in wish])


def check_wish(world, wish):
    """Refuses what is no wish for this world."""
    things = len(world[0])
    seen = set()
    for number, (thing, low, high) in enumerate(wish):
        if not 0 <= thing < things or thing in seen or not 0 <= low <= high:
            raise BadWish(number=number)
        seen.add(thing)


def check_papers(world, rows):
    """Refuses a list of weights of which some can't be weights of this world."""
    things = len(world[0])
    total = sum(world[0])
    for number, row in enumerate(rows):
        if len(row) != things or min(row) < 0 or sum(row) != total:
            raise BadPaper(number=number)
