"""Two hands that choose meetings in turn: one wishes, the other one hinders it."""

from heavierhall.errors import BadPaper
from heavierhall.reaching import check_papers, check_wish, explored, is_wished
from heavierhall.worlds import behind, check_world, gift


def forced(world, wish):
    """In how many meetings at the most the one that begins comes to its wish; None, if it can be hindered for ever."""
    check_world(world)
    check_wish(world, wish)
    wishing, _ = fought(stepped(world), wish)
    return wishing.get(world[0])


def chosen(world, wish):
    """The first place by which it still comes to it in so many; None, if it can't, or has it already."""
    check_world(world)
    check_wish(world, wish)
    steps = stepped(world)
    wishing, hindering = fought(steps, wish)
    if world[0] not in wishing:
        return None
    return best_place(steps[world[0]], hindering, wishing[world[0]])


def plan(world, wish):
    """(weights, number, place) of all weights from which the wishing hand, being on, forces its wish, rising."""
    check_world(world)
    check_wish(world, wish)
    steps = stepped(world)
    wishing, hindering = fought(steps, wish)
    return [
        (weights, wishing[weights], best_place(steps[weights], hindering, wishing[weights]))
        for weights in sorted(wishing)
    ]


def wins(world, wish, rows):
    """The world's own number, if these rows show that the wishing hand forces its wish in so many; else None."""
    check_world(world)
    check_wish(world, wish)
    check_papers(world, [row[0] for row in rows])
    check_plan(world, rows)
    counted = {weights: (number, place) for weights, number, place in rows}
    numbers = {weights: number for weights, number, _ in rows}
    for weights, (number, place) in counted.items():
        if place is None:
            holds = is_wished(weights, wish)
        else:
            holds = is_forcing(world, wish, numbers, number, outcomes(world, weights)[place])
        if not holds:
            return None
    return numbers.get(world[0])


def check_plan(world, rows):
    """Refuses rows of which some have a number below 0, or a place that there isn't."""
    places = len(world[1])
    for at, (_, number, place) in enumerate(rows):
        if number < 0 or (place is not None and not 0 <= place < places):
            raise BadPaper(number=at)


def is_forcing(world, wish, numbers, number, weights):
    """Whether the wishing hand that comes to these weights has its wish in so many, or keeps to the rows."""
    if is_wished(weights, wish) and number >= 1:
        return True
    for later in outcomes(world, weights):
        had = is_wished(later, wish) and number >= 2
        kept = later in numbers and numbers[later] <= number - 2
        if not had and not kept:
            return False
    return True


def outcomes(world, weights):
    """The weights behind each meeting there is, as places go, also of those that give nothing."""
    _, pairs, rule = world
    return [behind(weights, gift(weights, pair, rule)) for pair in pairs]


def stepped(world):
    """{weights: what each meeting leads to} of all that the world comes to."""
    return {weights: outcomes(world, weights) for weights in explored(world)}


def fought(steps, wish):
    """Two of {weights: in how many meetings the wish is forced}: the wishing hand being on, and the hindering one.

    The wishing hand has a number when one meeting leads to a number of the other hand, the hindering one when
    all do. Found by rising numbers, so the first that is found is the least for one, the most for the other.
    """
    before = led_from(steps)
    left = {weights: len(rows) for weights, rows in steps.items()}
    wishing = {weights: 0 for weights in steps if is_wished(weights, wish)}
    hindering = {weights: 0 for weights in wishing}
    fresh = list(wishing)
    pressed = list(wishing)
    number = 0
    while fresh or pressed:
        number += 1
        later = []
        for weights in pressed:
            for earlier in before[weights]:
                if earlier not in wishing:
                    wishing[earlier] = number
                    later.append(earlier)
        pressed = []
        for weights in fresh:
            for earlier in before[weights]:
                left[earlier] -= 1
                if left[earlier] == 0 and earlier not in hindering:
                    hindering[earlier] = number
                    pressed.append(earlier)
        fresh = later
    return wishing, hindering


def led_from(steps):
    """{weights: the weights from which a meeting leads to them}, as often as there are such meetings."""
    before = {weights: [] for weights in steps}
    for weights, rows in steps.items():
        for later in rows:
            before[later].append(weights)
    return before


def best_place(rows, hindering, number):
    """The first place that leaves the hindering hand one meeting less than this number; None for 0."""
    if number == 0:
        return None
    places = [place for place, weights in enumerate(rows) if hindering.get(weights) == number - 1]
    return places[0]
