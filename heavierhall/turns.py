"""Turns: meetings that are done again and again from the first, as far as one likes."""

from heavierhall.errors import BadCount
from heavierhall.worlds import check_meetings, check_world, gift, onward

FARTHEST = 10 ** 12


def period(world, turns):
    """(first, long): behind first meetings, and any number more, all is as behind long meetings more."""
    check_world(world)
    check_turns(world, turns)
    starts, again = circled(world, turns)
    # The place in the turns is to be the same, too, so only whole rounds of them can be as long as that.
    return entered(world, turns, starts, again), (len(starts) - again) * len(turns)


def after(world, turns, many):
    """The weights behind so many meetings."""
    check_world(world)
    check_turns(world, turns)
    if not 0 <= many <= FARTHEST:
        raise BadCount(f"no number from 0 to {FARTHEST}")
    starts, again = circled(world, turns)
    rounds, more = divmod(many, len(turns))
    if rounds >= len(starts):
        rounds = again + (rounds - again) % (len(starts) - again)
    return onward(world, starts[rounds], turns[:more])


def rests(world, turns):
    """(many, weights): from the fewest meetings on behind which nothing changes any more; None, if there are none."""
    check_world(world)
    check_turns(world, turns)
    _, pairs, rule = world
    starts, again = circled(world, turns)
    weights = starts[-1]
    if [place for place in turns if gift(weights, pairs[place], rule) is not None]:
        return None
    return entered(world, turns, starts, again), weights


def check_turns(world, turns):
    """Refuses what are no turns in this world."""
    check_meetings(world[1], turns)
    if len(turns) == 0:
        raise BadCount("no turns")


def circled(world, turns):
    """(the weights ahead of each round of the turns, until they come again; which of these come again)."""
    starts = []
    seen = {}
    weights = world[0]
    while weights not in seen:
        seen[weights] = len(starts)
        starts.append(weights)
        weights = onward(world, weights, turns)
    return starts, seen[weights]


def entered(world, turns, starts, again):
    """The fewest meetings behind which all comes again."""
    if again == 0:
        return 0
    # Two rounds that end alike may be alike some meetings ahead of their end.
    one = starts[again - 1]
    other = starts[-1]
    many = 0
    while one != other:
        one = onward(world, one, [turns[many]])
        other = onward(world, other, [turns[many]])
        many += 1
    return (again - 1) * len(turns) + many
