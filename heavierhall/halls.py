"""A hall: things that come, meet and leave, deed by deed."""

from heavierhall.errors import BadCount, BadDeed, HallError, NoPair, NoThing
from heavierhall.worlds import HEAVIEST, check_rule, gift

MOST_EVER = 20


class Hall:
    """Things with their weights, which of them may meet, and all that was done, by one rule."""

    def __init__(self, rule):
        check_rule(rule)
        self._rule = rule
        self._came = 0
        self._weights = {}
        self._links = {}
        self._meetings = []
        self._deeds = []

    def come(self, weight):
        """Lets a thing come in, and tells its number."""
        if not 0 <= weight <= HEAVIEST:
            raise BadCount(f"no weight from 0 to {HEAVIEST}")
        if self._came == MOST_EVER:
            raise BadCount(f"no more than {MOST_EVER} things ever come")
        number = self._came
        self._came += 1
        self._weights[number] = weight
        self._meetings.clear()
        self._deeds.append(("come", weight))
        return number

    def link(self, one, other):
        """Lets two meet from now on."""
        pair = self._pair(one, other)
        if one == other or pair in self._links:
            raise NoPair("one thing, or two that may meet already")
        self._links[pair] = True
        self._deeds.append(("link", one, other))

    def cut(self, one, other):
        """Lets two meet no more."""
        pair = self._linked(one, other)
        del self._links[pair]
        self._deeds.append(("cut", one, other))

    def meet(self, one, other):
        """Lets two meet, and tells (giver, taker, how much), None if nothing is given."""
        present = gift(self._weights, self._linked(one, other), self._rule)
        if present is not None:
            giver, taker, many = present
            self._weights[giver] -= many
            self._weights[taker] += many
        self._meetings.append(present)
        self._deeds.append(("meet", one, other))
        return present

    def leave(self, number):
        """Lets a thing go, its links too, and tells its weight."""
        self._check_in(number)
        weight = self._weights[number]
        del self._weights[number]
        self._links = {pair: True for pair in self._links if number not in pair}
        self._meetings.clear()
        self._deeds.append(("leave", number))
        return weight

    def back(self):
        """Takes the last meeting back that wasn't yet, since a thing came or went, and tells what it had told."""
        if not self._meetings:
            raise BadCount("no meeting to take back")
        present = self._meetings.pop()
        if present is not None:
            giver, taker, many = present
            self._weights[giver] += many
            self._weights[taker] -= many
        self._deeds.append(("back",))
        return present

    def weights(self):
        """{thing: weight} of all that are in."""
        return dict(self._weights)

    def pairs(self):
        """(lesser, greater) of all that may meet, rising."""
        return sorted(self._links)

    def still(self):
        """Whether no meeting would give anything."""
        return all([gift(self._weights, pair, self._rule) is None for pair in self._links])

    def world(self):
        """The world of those that are in, as they rise, numbered anew from 0."""
        places = {thing: at for at, thing in enumerate(self._weights)}
        weights = tuple(self._weights.values())
        pairs = tuple([(places[one], places[other]) for one, other in self.pairs()])
        return weights, pairs, self._rule

    def deeds(self):
        """All that was done, in turn, as tuples of the method's word and what was handed in."""
        return list(self._deeds)

    def _check_in(self, thing):
        """Refuses a thing that isn't in."""
        if thing not in self._weights:
            raise NoThing(number=thing)

    def _pair(self, one, other):
        """Two things as (lesser, greater), refused if one of them isn't in."""
        self._check_in(one)
        self._check_in(other)
        return min(one, other), max(one, other)

    def _linked(self, one, other):
        """Two things as (lesser, greater), refused if they may not meet."""
        pair = self._pair(one, other)
        # No thing is ever linked with itself, so one thing is refused here, too.
        if pair not in self._links:
            raise NoPair("one thing, or two that may not meet")
        return pair


def again(rule, deeds):
    """A hall that did these deeds."""
    hall = Hall(rule)
    for number, deed in enumerate(deeds):
        try:
            done = did(hall, deed)
        except HallError:
            raise BadDeed(number=number) from None
        if not done:
            raise BadDeed(number=number)
    return hall


def did(hall, deed):
    """Does this deed, and tells True; False, if it is none by its word and how many things."""
    match deed:
        case ("come", weight):
            hall.come(weight)
        case ("leave", number):
            hall.leave(number)
        case ("link", one, other):
            hall.link(one, other)
        case ("cut", one, other):
            hall.cut(one, other)
        case ("meet", one, other):
            hall.meet(one, other)
        case ("back",):
            hall.back()
        case _:
            return False
    return True
