"""Turns that go round and round: [8], and [1], [2] and [4] as far as they speak of these."""

import unittest

from heavierhall.errors import BadCount, BadMeeting, BadWorld
from heavierhall.turns import after, period, rests
from heavierhall.worlds import met
from tests.helpers import (
    COMES_TO_3001, COMES_TO_MORE, LATE_ROUND, NO_PAIRS, STILL, SWAP, THREE_ENDS, many_worlds, refusal, slow_trail,
)

FARTHEST = 10 ** 12

# One of two hundred turns changes something, fifteen times.
LATE = ((30, 0, 7, 7), ((2, 3), (0, 1)), ("some", 1))
CHANGE_LAST = (0,) * 199 + (1,)
CHANGE_FIRST = (1,) + (0,) * 199

# Behind a while it goes round, in seven rounds of four turns and more.
LONG = ((6, 27, 18), ((0, 1), (0, 2), (1, 2)), ("part", 4, 9))


def many_turns(world):
    """Some turns in this world, the same ones each time."""
    places = tuple(range(len(world[1])))
    if not places:
        return []
    return [places, places[::-1], places[:1], places[-1:] * 3, places + places[1:], (places + places[:1] * 2) * 2]


class After(unittest.TestCase):
    def test_none(self):
        self.assertEqual(after(THREE_ENDS, (0, 1), 0), (4, 0, 0))
        self.assertEqual(after(SWAP, (0,), 0), (1, 0))
        self.assertEqual(after(STILL, (1,) * 200, 0), (3, 3, 3))

    def test_a_few(self):
        # (4, 0, 0) -> (2, 2, 0) -> (1, 2, 1) -> (1, 2, 1)
        for many, weights in enumerate([(4, 0, 0), (2, 2, 0), (1, 2, 1), (1, 2, 1), (1, 2, 1)]):
            self.assertEqual(after(THREE_ENDS, (0, 1), many), weights)
        # (3, 0) -> (1, 2) -> (2, 1) -> (1, 2)
        for many, weights in enumerate([(3, 0), (1, 2), (2, 1), (1, 2), (2, 1), (1, 2)]):
            self.assertEqual(after(LATE_ROUND, (0,), many), weights)
            self.assertEqual(after(LATE_ROUND, (0, 0, 0), many), weights)

    def test_the_most(self):
        self.assertEqual(after(SWAP, (0,), FARTHEST), (1, 0))
        self.assertEqual(after(SWAP, (0,), FARTHEST - 1), (0, 1))
        self.assertEqual(after(SWAP, (0, 0, 0), FARTHEST), (1, 0))
        self.assertEqual(after(SWAP, (0, 0, 0), FARTHEST - 1), (0, 1))
        self.assertEqual(after(LATE_ROUND, (0,), FARTHEST), (2, 1))
        self.assertEqual(after(LATE_ROUND, (0,), FARTHEST - 1), (1, 2))
        self.assertEqual(after(THREE_ENDS, (0, 1), FARTHEST), (1, 2, 1))
        self.assertEqual(after(LATE, CHANGE_LAST, FARTHEST), (15, 15, 7, 7))

    def test_where_it_changes_late(self):
        for many, weights in [
            (199, (30, 0, 7, 7)), (200, (29, 1, 7, 7)), (399, (29, 1, 7, 7)), (400, (28, 2, 7, 7)),
            (2999, (16, 14, 7, 7)), (3000, (15, 15, 7, 7)), (3001, (15, 15, 7, 7)),
        ]:
            self.assertEqual(after(LATE, CHANGE_LAST, many), weights, many)

    def test_many_worlds(self):
        for world in many_worlds():
            for turns in many_turns(world):
                trail, first = slow_trail(world, turns)
                long = len(trail) - first
                for many in range(len(trail) + len(turns) + 2):
                    wanted = trail[many] if many < len(trail) else trail[first + (many - first) % long]
                    self.assertEqual(after(world, turns, many), wanted, (world, turns, many))
                for many in range(FARTHEST - len(turns), FARTHEST + 1):
                    wanted = trail[first + (many - first) % long]
                    self.assertEqual(after(world, turns, many), wanted, (world, turns, many))

    def test_by_met(self):
        for many in range(190):
            meetings = [(0, 1, 1, 2)[at % 4] for at in range(many)]
            self.assertEqual(after(LONG, (0, 1, 1, 2), many), met(LONG, meetings), many)

    def test_kind(self):
        self.assertIs(type(after(SWAP, (0,), 5)), tuple)


class Period(unittest.TestCase):
    def test_by_hand(self):
        self.assertEqual(period(SWAP, (0,)), (0, 2))
        self.assertEqual(period(LATE_ROUND, (0,)), (1, 2))
        self.assertEqual(period(THREE_ENDS, (0, 1)), (2, 2))
        self.assertEqual(period(THREE_ENDS, (0,)), (1, 1))

    def test_the_weights_come_again_at_another_place_only(self):
        # The weights are (1, 0) again behind two, but two isn't a round of three turns.
        self.assertEqual(period(SWAP, (0, 0, 0)), (0, 6))
        self.assertEqual(period(SWAP, (0, 0)), (0, 2))
        self.assertEqual(period(LATE_ROUND, (0, 0, 0)), (1, 6))
        self.assertEqual(period(LATE_ROUND, (0,) * 199), (1, 398))
        self.assertEqual(period(LATE_ROUND, (0,) * 200), (1, 200))

    def test_nothing_is_ever_given(self):
        self.assertEqual(period(STILL, (1,)), (0, 1))
        self.assertEqual(period(STILL, (0, 1, 0)), (0, 3))
        self.assertEqual(period(STILL, (0,) * 200), (0, 200))
        self.assertEqual(period(((4, 0, 0), ((0, 1), (1, 2)), ("half",)), (1, 1)), (0, 2))

    def test_late(self):
        self.assertEqual(period(LATE, CHANGE_LAST), (3000, 200))
        self.assertEqual(period(LATE, CHANGE_FIRST), (2801, 200))
        self.assertEqual(period(LONG, (0, 1, 1, 2)), (69, 8))

    def test_rounds_that_come_together_ahead_of_their_end(self):
        # (0, 4) and (2, 2) are led to (2, 2) by the first of two turns.
        self.assertEqual(period(((0, 4, 3, 3), ((0, 1), (2, 3)), ("half",)), (0, 1)), (1, 2))
        self.assertEqual(period(((0, 4, 3, 3), ((0, 1), (2, 3)), ("half",)), (1, 0)), (2, 2))
        self.assertEqual(period(((0, 4, 3, 3), ((0, 1), (2, 3)), ("half",)), (1, 0, 1, 1)), (2, 4))

    def test_many_worlds(self):
        for world in many_worlds():
            for turns in many_turns(world):
                trail, first = slow_trail(world, turns)
                self.assertEqual(period(world, turns), (first, len(trail) - first), (world, turns))

    def test_kind(self):
        self.assertIs(type(period(SWAP, (0,))), tuple)


class Rests(unittest.TestCase):
    def test_by_hand(self):
        self.assertEqual(rests(THREE_ENDS, (0, 1)), (2, (1, 2, 1)))
        self.assertEqual(rests(THREE_ENDS, (1, 0)), (2, (1, 1, 2)))
        self.assertEqual(rests(THREE_ENDS, (2, 0)), (3, (2, 1, 1)))
        self.assertEqual(rests(THREE_ENDS, (0, 0, 0, 1)), (4, (1, 2, 1)))

    def test_nothing_changes_at_all(self):
        self.assertEqual(rests(STILL, (0, 1, 1)), (0, (3, 3, 3)))
        self.assertEqual(rests(THREE_ENDS, (2, 2)), (0, (4, 0, 0)))

    def test_other_meetings_would_change_something(self):
        self.assertEqual(rests(THREE_ENDS, (0,)), (1, (2, 2, 0)))

    def test_late(self):
        self.assertEqual(rests(LATE, CHANGE_LAST), (3000, (15, 15, 7, 7)))
        self.assertEqual(rests(LATE, CHANGE_FIRST), (2801, (15, 15, 7, 7)))
        self.assertEqual(rests(((30, 27, 15), LONG[1], ("part", 1, 5)), (0, 1, 1, 2)), (52, (24, 24, 24)))

    def test_always_changes(self):
        self.assertIsNone(rests(SWAP, (0,)))
        self.assertIsNone(rests(LATE_ROUND, (0,)))
        self.assertIsNone(rests(LONG, (0, 1, 1, 2)))

    def test_always_changes_that_a_round_of_turns_takes_back(self):
        self.assertEqual(period(SWAP, (0, 0)), (0, 2))
        self.assertIsNone(rests(SWAP, (0, 0)))
        self.assertIsNone(rests(LATE_ROUND, (0, 0)))

    def test_many_worlds(self):
        resting = 0
        for world in many_worlds():
            for turns in many_turns(world):
                trail, first = slow_trail(world, turns)
                wanted = None
                if set(trail[first:]) == {trail[-1]}:
                    resting += 1
                    wanted = (trail.index(trail[-1]), trail[-1])
                self.assertEqual(rests(world, turns), wanted, (world, turns))
        self.assertGreater(resting, 100)

    def test_kind(self):
        told = rests(THREE_ENDS, (0, 1))
        self.assertIs(type(told), tuple)
        self.assertIs(type(told[1]), tuple)


class Refused(unittest.TestCase):
    CALLS = (period, lambda world, turns: after(world, turns, 0), rests)

    def test_a_place_that_is_none(self):
        for call in self.CALLS:
            for turns, number in [
                ((-1,), 0), ((3,), 0), ((0, 1, 2, 3), 3), ((2, -1, 3), 1), ((0,) * 199 + (3,), 199),
            ]:
                self.assertEqual(refusal(BadMeeting, call, THREE_ENDS, turns).number, number)
            self.assertEqual(refusal(BadMeeting, call, NO_PAIRS, (0,)).number, 0)

    def test_one_more_than_two_hundred(self):
        self.assertEqual(period(THREE_ENDS, (0,) * 200), (1, 200))
        for call in self.CALLS:
            self.assertEqual(refusal(BadMeeting, call, THREE_ENDS, (0,) * 201).number, 200)
            self.assertEqual(refusal(BadMeeting, call, THREE_ENDS, (0,) * 201 + (-1,)).number, 200)
            self.assertEqual(refusal(BadMeeting, call, THREE_ENDS, (0,) * 200 + (-1,)).number, 200)
            self.assertEqual(refusal(BadMeeting, call, THREE_ENDS, (0,) * 100 + (-1,) + (0,) * 100).number, 100)

    def test_no_turns(self):
        for call in self.CALLS:
            refusal(BadCount, call, THREE_ENDS, ())
            refusal(BadCount, call, NO_PAIRS, ())

    def test_numbers(self):
        for many in (-1, -FARTHEST, FARTHEST + 1, FARTHEST * FARTHEST):
            refusal(BadCount, after, THREE_ENDS, (0, 1), many)
            refusal(BadCount, after, STILL, (0,), many)

    def test_turns_ahead_of_the_number(self):
        self.assertEqual(refusal(BadMeeting, after, THREE_ENDS, (0, 3), -1).number, 1)
        self.assertEqual(refusal(BadMeeting, after, THREE_ENDS, (0,) * 201, FARTHEST + 1).number, 200)
        refusal(BadCount, after, THREE_ENDS, (), -1)

    def test_worlds_ahead_of_all(self):
        world = ((4, 0, 31), ((0, 1),), ("half",))
        for call in self.CALLS:
            for turns in ((), (5,), (0,)):
                refused = refusal(BadWorld, call, world, turns)
                self.assertEqual((refused.part, refused.number), (0, 2))
        self.assertEqual(refusal(BadWorld, after, world, (0,), -1).part, 0)
        self.assertEqual(refusal(BadWorld, after, world, (1,), -1).part, 0)


class Many(unittest.TestCase):
    def test_not_too_many(self):
        for world in (COMES_TO_3001, COMES_TO_MORE):
            turns = tuple(range(len(world[1])))
            trail, first = slow_trail(world, turns)
            self.assertEqual(period(world, turns), (first, len(trail) - first))
            self.assertEqual(after(world, turns, FARTHEST), trail[first + (FARTHEST - first) % (len(trail) - first)])
            self.assertEqual(rests(world, turns) is None, len(set(trail[first:])) > 1)


if __name__ == "__main__":
    unittest.main()
