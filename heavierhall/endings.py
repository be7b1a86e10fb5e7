"""How long a world goes on: for ever, with a round, or with numbers that fall and show that it ends."""

from heavierhall.errors import BadPaper
from heavierhall.reaching import changes, check_papers, explored, traced
from heavierhall.worlds import check_world


def round_of(world):
    """(the way to some weights, changes from these back to them); None, if there's no round."""
    check_world(world)
    found = explored(world)
    steps = stepped(world, found)
    numbers = fallen(steps)
    for weights in found:
        if weights not in numbers:
            start, circle = circled(steps, numbers, weights)
            return traced(found, start), circle
    return None


def heights(world):
    """(weights, how many changes there can be from there on), rising; None, if there's a round."""
    check_world(world)
    found = explored(world)
    numbers = fallen(stepped(world, found))
    if len(numbers) < len(found):
        return None
    return [(weights, numbers[weights]) for weights in sorted(found)]


def longest(world):
    """The most meetings, of such the first, each a change; None, if there's a round."""
    check_world(world)
    found = explored(world)
    steps = stepped(world, found)
    numbers = fallen(steps)
    if len(numbers) < len(found):
        return None
    weights = world[0]
    places = []
    while numbers[weights] > 0:
        longest_steps = [row for row in steps[weights] if numbers[row[1]] == numbers[weights] - 1]
        place, weights = longest_steps[0]
        places.append(place)
    return places


def only_end(world):
    """The weights at which the world ends whatever way it goes; None, if there's a round, or another end."""
    check_world(world)
    found = explored(world)
    numbers = fallen(stepped(world, found))
    last = [weights for weights in found if numbers.get(weights) == 0]
    if len(numbers) < len(found) or len(last) > 1:
        return None
    return last[0]


def shows(world, rows):
    """The number of the world's own weights, if these rows show that there are no more changes; else None."""
    check_world(world)
    check_papers(world, [row[0] for row in rows])
    check_numbers(rows)
    numbers = {weights: number for weights, number in rows}
    for weights, number in numbers.items():
        for _, after in changes(world, weights):
            if after not in numbers or numbers[after] >= number:
                return None
    return numbers.get(world[0])


def check_numbers(rows):
    """Refuses rows of which some have a number below 0."""
    for at, row in enumerate(rows):
        if row[1] < 0:
            raise BadPaper(number=at)


def stepped(world, found):
    """{weights: their changes} of all weights that were found."""
    return {weights: changes(world, weights) for weights in found}


def fallen(steps):
    """{weights: the most changes from there on} of those from which no round can be come to.

    Weights get their number when all that their changes lead to have one: in a round, and before one,
    this never comes.
    """
    before = {weights: [] for weights in steps}
    for weights, rows in steps.items():
        for _, after in rows:
            before[after].append(weights)
    left = {weights: len(rows) for weights, rows in steps.items()}
    numbers = {}
    level = [weights for weights in steps if left[weights] == 0]
    number = 0
    while level:
        later = []
        for weights in level:
            numbers[weights] = number
            for earlier in before[weights]:
                left[earlier] -= 1
                if left[earlier] == 0:
                    later.append(earlier)
        level = later
        number += 1
    return numbers


def circled(steps, numbers, weights):
    """(weights of a round, the round from there), found by going on from weights that have no number."""
    places = []
    seen = {}
    while weights not in seen:
        seen[weights] = len(places)
        endless_steps = [row for row in steps[weights] if row[1] not in numbers]
        place, weights = endless_steps[0]
        places.append(place)
    return weights, places[seen[weights]:]
