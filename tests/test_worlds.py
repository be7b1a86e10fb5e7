"""Worlds, and what meetings come to: [2] and [3], and [1] as far as it speaks of these."""

import unittest
from itertools import combinations

from heavierhall.duels import chosen, forced, plan, wins
from heavierhall.endings import heights, longest, only_end, round_of, shows
from heavierhall.errors import BadMeeting, BadWorld
from heavierhall.notes import written
from heavierhall.reaching import bars, ends, reached, way
from heavierhall.turns import after, period, rests
from heavierhall.worlds import gifts, met
from tests.helpers import ALL_RULES, BAD_WORLDS, NO_RULES, SWAP, gift, many_worlds, refusal, step

# Each function, handed things behind the world that it would refuse, too.
ASKED = [
    lambda world: met(world, [-1]),
    lambda world: gifts(world, [-1]),
    lambda world: reached(world),
    lambda world: ends(world),
    lambda world: way(world, ((-1, 0, 0),)),
    lambda world: bars(world, [()], ((-1, 0, 0),)),
    lambda world: round_of(world),
    lambda world: heights(world),
    lambda world: longest(world),
    lambda world: only_end(world),
    lambda world: shows(world, [((), -1)]),
    lambda world: period(world, (-1,)),
    lambda world: period(world, ()),
    lambda world: after(world, (), -1),
    lambda world: after(world, (-1,), -1),
    lambda world: after(world, (0,), -1),
    lambda world: rests(world, (-1,)),
    lambda world: rests(world, ()),
    lambda world: forced(world, ((-1, 0, 0),)),
    lambda world: chosen(world, ((-1, 0, 0),)),
    lambda world: plan(world, ((-1, 0, 0),)),
    lambda world: wins(world, ((-1, 0, 0),), [((), -1, -1)]),
    lambda world: wins(world, (), [((), -1, -1)]),
    lambda world: written(world),
]


def pair_of(one, other, rule):
    return (one, other), ((0, 1),), rule


class Rules(unittest.TestCase):
    def check(self, rule, rows):
        for one, other, much in rows:
            with self.subTest(rule=rule, one=one, other=other):
                present = (0, 1, much) if much else None
                self.assertEqual(gifts(pair_of(one, other, rule), [0]), [present])
                self.assertEqual(met(pair_of(one, other, rule), [0]), (one - much, other + much))
                turned = (1, 0, much) if much else None
                self.assertEqual(gifts(pair_of(other, one, rule), [0]), [turned])
                self.assertEqual(met(pair_of(other, one, rule), [0]), (other + much, one - much))

    def test_some(self):
        self.check(("some", 3), [(9, 2, 3), (3, 2, 3), (2, 1, 2), (1, 0, 1), (30, 0, 3), (4, 3, 3)])
        self.check(("some", 1), [(9, 2, 1), (1, 0, 1), (30, 29, 1)])
        self.check(("some", 9), [(10, 2, 9), (9, 8, 9), (8, 1, 8)])

    def test_half(self):
        self.check(("half",), [(9, 2, 3), (8, 2, 3), (3, 2, 0), (4, 2, 1), (30, 0, 15), (1, 0, 0), (2, 0, 1)])

    def test_even(self):
        self.check(("even",), [(9, 2, 4), (8, 2, 3), (3, 2, 1), (4, 2, 1), (30, 1, 15), (1, 0, 1), (2, 0, 1)])

    def test_part(self):
        self.check(("part", 1, 3), [(9, 2, 3), (8, 7, 2), (2, 0, 0), (3, 2, 1), (30, 0, 10)])
        self.check(("part", 2, 3), [(9, 2, 6), (8, 7, 5), (1, 0, 0), (2, 1, 1), (4, 0, 2)])
        self.check(("part", 1, 1), [(9, 2, 9), (30, 29, 30)])
        self.check(("part", 9, 9), [(9, 2, 9), (1, 0, 1)])
        self.check(("part", 1, 9), [(9, 2, 1), (8, 2, 0), (18, 3, 2)])

    def test_a_part_that_is_nothing(self):
        self.assertEqual(gifts(pair_of(3, 1, ("part", 1, 4)), [0, 0]), [None, None])
        self.assertEqual(met(pair_of(3, 1, ("part", 1, 4)), [0, 0]), (3, 1))

    def test_alike_ones_stand(self):
        for rule in ALL_RULES:
            for weight in (0, 1, 7, 30):
                with self.subTest(rule=rule, weight=weight):
                    self.assertEqual(gifts(pair_of(weight, weight, rule), [0]), [None])
                    self.assertEqual(met(pair_of(weight, weight, rule), [0]), (weight, weight))

    def test_all_rules_at_all_weights(self):
        for rule in ALL_RULES:
            for one, other in [(one, other) for one in range(31) for other in range(0, 31, 3)]:
                world = pair_of(one, other, rule)
                self.assertEqual(gifts(world, [0]), [gift(world, world[0], 0)], world)
                self.assertEqual(met(world, [0]), step(world, world[0], 0), world)


class Meetings(unittest.TestCase):
    WORLD = ((7, 0, 2), ((0, 1), (1, 2), (0, 2)), ("half",))

    def test_none(self):
        self.assertEqual(met(self.WORLD, []), (7, 0, 2))
        self.assertEqual(met(self.WORLD, ()), (7, 0, 2))
        self.assertEqual(gifts(self.WORLD, []), [])
        self.assertEqual(gifts(self.WORLD, ()), [])

    def test_some(self):
        # (7, 0, 2) -> (4, 3, 2) -> (4, 3, 2) -> (3, 3, 3) -> (3, 3, 3)
        meetings = [0, 1, 2, 0]
        self.assertEqual(met(self.WORLD, meetings), (3, 3, 3))
        self.assertEqual(gifts(self.WORLD, meetings), [(0, 1, 3), None, (0, 2, 1), None])
        self.assertEqual(met(self.WORLD, tuple(meetings)), (3, 3, 3))
        self.assertEqual(gifts(self.WORLD, tuple(meetings)), [(0, 1, 3), None, (0, 2, 1), None])

    def test_kinds(self):
        self.assertIs(type(met(self.WORLD, [0])), tuple)
        told = gifts(self.WORLD, (0, 1))
        self.assertIs(type(told), list)
        self.assertIs(type(told[0]), tuple)

    def test_two_hundred(self):
        self.assertEqual(met(SWAP, [0] * 200), (1, 0))
        self.assertEqual(met(SWAP, (0,) * 199), (0, 1))
        self.assertEqual(gifts(SWAP, (0,) * 200), [(0, 1, 1), (1, 0, 1)] * 100)

    def test_many_worlds(self):
        for world in many_worlds():
            places = list(range(len(world[1])))
            meetings = (places + places[::-1] + places) * 3
            weights, presents = world[0], []
            for place in meetings:
                presents.append(gift(world, weights, place))
                weights = step(world, weights, place)
            self.assertEqual(met(world, meetings), weights, world)
            self.assertEqual(gifts(world, meetings), presents, world)

    def test_weights_rise_above_thirty(self):
        world = ((30, 30, 29), ((0, 2), (0, 1)), ("some", 9))
        self.assertEqual(met(world, [0]), (21, 30, 38))
        self.assertEqual(met(world, [0, 0]), (30, 30, 29))

    def test_a_place_that_is_none(self):
        for call in (met, gifts):
            for meetings, number in [
                ([-1], 0), ([3], 0), ([0, 1, 2, 3, -1], 3), ([2, -1, 3], 1), ((0, 0, 40), 2),
            ]:
                with self.subTest(call=call.__name__, meetings=meetings):
                    self.assertEqual(refusal(BadMeeting, call, self.WORLD, meetings).number, number)

    def test_a_world_without_pairs_has_no_meeting(self):
        for call in (met, gifts):
            self.assertEqual(refusal(BadMeeting, call, ((1, 2), (), ("half",)), [0]).number, 0)

    def test_one_more_than_two_hundred(self):
        for call in (met, gifts):
            self.assertEqual(refusal(BadMeeting, call, SWAP, [0] * 201).number, 200)
            self.assertEqual(refusal(BadMeeting, call, SWAP, (0,) * 250).number, 200)
            self.assertEqual(refusal(BadMeeting, call, SWAP, [0] * 201 + [-1]).number, 200)
            self.assertEqual(refusal(BadMeeting, call, SWAP, [0] * 199 + [1, 0, 0]).number, 199)

    def test_what_is_handed_in_stays(self):
        meetings = [0, 2, 1]
        met(self.WORLD, meetings)
        gifts(self.WORLD, meetings)
        self.assertEqual(meetings, [0, 2, 1])
        refusal(BadMeeting, met, self.WORLD, meetings * 80)
        self.assertEqual(meetings, [0, 2, 1])

    def test_what_is_told_is_no_one_elses(self):
        first = gifts(self.WORLD, [0, 1])
        first.clear()
        self.assertEqual(gifts(self.WORLD, [0, 1]), [(0, 1, 3), None])


class Refused(unittest.TestCase):
    def check(self, world, part, number):
        for call in ASKED:
            refused = refusal(BadWorld, call, world)
            self.assertEqual((refused.part, refused.number), (part, number), world)

    def test_weights_and_pairs(self):
        for world, part, number in BAD_WORLDS:
            with self.subTest(world):
                self.check(world, part, number)

    def test_rules(self):
        for rule in NO_RULES:
            with self.subTest(rule):
                self.check(((1, 2), ((0, 1),), rule), 2, 0)
                self.check(((1, 2), (), rule), 2, 0)

    def test_without_what_else_is_wrong(self):
        for world, part, number in BAD_WORLDS:
            for call in (met, gifts):
                refused = refusal(BadWorld, call, world, [])
                self.assertEqual((refused.part, refused.number), (part, number), world)


class Accepted(unittest.TestCase):
    def test_all_rules(self):
        for rule in ALL_RULES:
            self.assertEqual(met(((4, 4), ((0, 1),), rule), []), (4, 4), rule)

    def test_edges_of_weights(self):
        for weights in [(0, 0), (30, 30), (0, 30), (1, 2, 3, 4, 5, 6), (30,) * 6]:
            self.assertEqual(met((weights, (), ("half",)), []), weights)

    def test_edges_of_pairs(self):
        pairs = tuple(combinations(range(6), 2))
        self.assertEqual(len(pairs), 15)
        for told in (pairs, pairs[::-1], pairs[:1], ()):
            self.assertEqual(met(((6,) * 6, told, ("half",)), list(range(len(told)))), (6,) * 6)


if __name__ == "__main__":
    unittest.main()
