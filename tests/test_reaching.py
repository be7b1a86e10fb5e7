"""What a world can come to: [4] and [5], and [1] as far as it speaks of these."""

import unittest

from heavierhall.errors import BadPaper, BadWish, BadWorld, TooMany
from heavierhall.reaching import bars, ends, reached, way
from heavierhall.worlds import met
from tests.helpers import (
    COMES_TO_3000, COMES_TO_3001, COMES_TO_MORE, LATE_ROUND, NO_PAIRS, ONE_END, ROUND_AND_END, STILL, SWAP, THREE_ENDS,
    changes, many_worlds, refusal, slow_way, table,
)

# (a wish, the number of its first row that can't be), for a world of three things.
BAD_WISHES = [
    (((-1, 0, 4),), 0),
    (((3, 0, 4),), 0),
    (((0, -1, 4),), 0),
    (((0, -2, -1),), 0),
    (((0, 3, 2),), 0),
    (((0, 1, 0),), 0),
    (((1, 0, 0), (1, 0, 0)), 1),
    (((1, 0, 0), (0, 0, 0), (1, 2, 3)), 2),
    (((0, 0, 0), (1, 0, 0), (2, 0, 0), (0, 0, 0)), 3),
    (((0, 0, 0), (1, 0, 0), (2, 0, 0), (3, 0, 0)), 3),
    (((2, 0, 4), (0, 5, 4), (2, 0, 4)), 1),
    (((2, 0, 4), (2, 0, 4), (0, 5, 4)), 1),
]

# (rows, the number of the first that can't be), for a world of three things that weigh four.
BAD_PAPERS = [
    ([(4, 0)], 0),
    ([(4, 0, 0, 0)], 0),
    ([()], 0),
    ([(4, 0, 0), (4,)], 1),
    ([(5, -1, 0)], 0),
    ([(4, 0, 0), (2, 3, -1)], 1),
    ([(4, 0, 0), (0, 4, 0), (4, 0, 1)], 2),
    ([(4, 0, 0), (0, 3, 0)], 1),
    ([(0, 0, 0)], 0),
    ([(4, 0, 0), (4, 0, 1), (4, 0), (5, -1, 0)], 1),
    ([(5, -1, 0), (4, 0, 1), (4, 0)], 0),
    ([(4, 0), (5, -1, 0)], 0),
    ([(4, 0, 0)] * 5 + [(3, 2, 0)], 5),
]

ALL_OF_THREE_ENDS = [(1, 1, 2), (1, 2, 1), (2, 0, 2), (2, 1, 1), (2, 2, 0), (4, 0, 0)]


def just(weights):
    """The wish for these weights and no others."""
    return tuple((thing, weight, weight) for thing, weight in enumerate(weights))


def is_wished(weights, wish):
    return not [thing for thing, low, high in wish if weights[thing] not in range(low, high + 1)]


class Reached(unittest.TestCase):
    def test_by_hand(self):
        self.assertEqual(reached(THREE_ENDS), ALL_OF_THREE_ENDS)
        self.assertEqual(reached(SWAP), [(0, 1), (1, 0)])
        self.assertEqual(reached(LATE_ROUND), [(1, 2), (2, 1), (3, 0)])
        self.assertEqual(reached(ROUND_AND_END), [(0, 2, 1), (1, 1, 1), (1, 2, 0), (2, 1, 0)])

    def test_own_weights_alone(self):
        self.assertEqual(reached(STILL), [(3, 3, 3)])
        self.assertEqual(reached(NO_PAIRS), [(5, 1, 0)])

    def test_many_worlds(self):
        for world in many_worlds():
            self.assertEqual(reached(world), sorted(table(world)), world)

    def test_kinds(self):
        self.assertIs(type(reached(SWAP)), list)
        self.assertIs(type(reached(SWAP)[0]), tuple)

    def test_told_anew(self):
        reached(THREE_ENDS).clear()
        reached(THREE_ENDS)[0] = None
        self.assertEqual(reached(THREE_ENDS), ALL_OF_THREE_ENDS)


class Ends(unittest.TestCase):
    def test_by_hand(self):
        self.assertEqual(ends(THREE_ENDS), [((1, 1, 2), [1, 0]), ((1, 2, 1), [0, 1]), ((2, 1, 1), [0, 2])])
        self.assertEqual(ends(ROUND_AND_END), [((1, 1, 1), [1])])
        self.assertEqual(ends(ONE_END), [((4, 3, 2), [0, 1])])
        self.assertEqual(ends(SWAP), [])
        self.assertEqual(ends(LATE_ROUND), [])

    def test_own_weights_are_the_end(self):
        self.assertEqual(ends(STILL), [((3, 3, 3), [])])
        self.assertEqual(ends(NO_PAIRS), [((5, 1, 0), [])])

    def test_what_gives_nothing_is_at_an_end_though_unlike(self):
        self.assertEqual(ends(((3, 2), ((0, 1),), ("half",))), [((3, 2), [])])
        self.assertEqual(ends(((3, 2), ((0, 1),), ("part", 1, 4))), [((3, 2), [])])

    def test_many_worlds(self):
        for world in many_worlds():
            steps = table(world)
            last = sorted(weights for weights in steps if not changes(steps, weights))
            self.assertEqual(
                ends(world), [(weights, slow_way(world, steps, [weights])) for weights in last], world)

    def test_kinds_and_told_anew(self):
        told = ends(THREE_ENDS)
        self.assertIs(type(told), list)
        self.assertIs(type(told[0]), tuple)
        self.assertIs(type(told[0][0]), tuple)
        self.assertIs(type(told[0][1]), list)
        told[0][1].append(7)
        told.pop()
        self.assertEqual(ends(THREE_ENDS), [((1, 1, 2), [1, 0]), ((1, 2, 1), [0, 1]), ((2, 1, 1), [0, 2])])


class Way(unittest.TestCase):
    def test_by_hand(self):
        self.assertEqual(way(THREE_ENDS, ((0, 2, 2),)), [0])
        self.assertEqual(way(THREE_ENDS, ((2, 2, 9),)), [1])
        self.assertEqual(way(THREE_ENDS, ((0, 1, 1),)), [0, 1])
        self.assertEqual(way(THREE_ENDS, ((0, 1, 1), (1, 0, 1))), [1, 0])
        self.assertEqual(way(THREE_ENDS, just((2, 1, 1))), [0, 2])
        self.assertEqual(way(LATE_ROUND, ((0, 2, 2),)), [0, 0])

    def test_the_fewest_before_the_first(self):
        world = ((4, 0, 0), ((1, 2), (0, 1), (0, 2)), ("part", 1, 1))
        self.assertEqual(way(world, ((2, 4, 4),)), [2])

    def test_no_meetings(self):
        self.assertEqual(way(THREE_ENDS, ()), [])
        self.assertEqual(way(THREE_ENDS, ((0, 4, 4), (2, 0, 0))), [])
        self.assertEqual(way(NO_PAIRS, ((0, 0, 5), (1, 1, 1))), [])

    def test_none(self):
        self.assertIsNone(way(THREE_ENDS, ((0, 3, 3),)))
        self.assertIsNone(way(THREE_ENDS, ((0, 5, 99),)))
        self.assertIsNone(way(THREE_ENDS, ((0, 0, 0),)))
        self.assertIsNone(way(THREE_ENDS, ((0, 2, 2), (1, 1, 1), (2, 0, 0))))
        self.assertIsNone(way(NO_PAIRS, ((0, 4, 4),)))
        self.assertIsNone(way(STILL, ((2, 4, 9),)))

    def test_edges_of_low_and_high(self):
        self.assertEqual(way(THREE_ENDS, ((0, 2, 3),)), [0])
        self.assertEqual(way(THREE_ENDS, ((0, 1, 2),)), [0])
        self.assertEqual(way(THREE_ENDS, ((1, 2, 2),)), [0])
        self.assertEqual(way(THREE_ENDS, ((2, 0, 0), (1, 1, 300))), [0])

    def test_things_in_any_turn(self):
        self.assertEqual(way(THREE_ENDS, ((2, 1, 1), (0, 2, 2), (1, 1, 1))), [0, 2])

    def test_to_all_weights_of_many_worlds(self):
        for world in many_worlds():
            steps = table(world)
            for weights in steps:
                self.assertEqual(way(world, just(weights)), slow_way(world, steps, [weights]), world)

    def test_to_some_weights_of_many_worlds(self):
        for world in many_worlds():
            steps = table(world)
            for wish in [((0, 1, 2),), ((1, 2, 4),), ((1, 3, 3), (0, 0, 1)), ((0, 2, 2), (1, 1, 9)), ((1, 0, 0),)]:
                wanted = [weights for weights in steps if is_wished(weights, wish)]
                told = way(world, wish)
                self.assertEqual(told, slow_way(world, steps, wanted), (world, wish))
                if told is not None:
                    self.assertTrue(is_wished(met(world, told), wish))

    def test_told_anew(self):
        told = way(THREE_ENDS, ((0, 1, 1),))
        self.assertIs(type(told), list)
        told.append(9)
        self.assertEqual(way(THREE_ENDS, ((0, 1, 1),)), [0, 1])


class Bars(unittest.TestCase):
    WISH = ((0, 3, 3),)

    def test_true(self):
        self.assertIs(bars(THREE_ENDS, ALL_OF_THREE_ENDS, self.WISH), True)
        self.assertIs(bars(THREE_ENDS, ALL_OF_THREE_ENDS[::-1], self.WISH), True)
        self.assertIs(bars(NO_PAIRS, [(5, 1, 0)], ((0, 0, 4),)), True)
        self.assertIs(bars(STILL, [(3, 3, 3)], ((0, 0, 2), (1, 3, 3))), True)

    def test_own_weights_are_not_there(self):
        self.assertIs(bars(THREE_ENDS, ALL_OF_THREE_ENDS[:-1], self.WISH), False)
        self.assertIs(bars(THREE_ENDS, [], self.WISH), False)
        self.assertIs(bars(NO_PAIRS, [(5, 0, 1)], ((0, 0, 4),)), False)

    def test_one_is_as_wished(self):
        self.assertIs(bars(THREE_ENDS, ALL_OF_THREE_ENDS, ((1, 2, 2), (2, 0, 0))), False)
        self.assertIs(bars(THREE_ENDS, ALL_OF_THREE_ENDS, ((0, 4, 4),)), False)
        self.assertIs(bars(THREE_ENDS, ALL_OF_THREE_ENDS, ()), False)
        # The world never comes to (0, 2, 2), but the rows have it.
        self.assertIs(bars(THREE_ENDS, ALL_OF_THREE_ENDS + [(0, 2, 2)], ((0, 0, 0),)), False)

    def test_what_is_behind_a_meeting_is_not_there(self):
        for weights in ALL_OF_THREE_ENDS:
            rows = [row for row in ALL_OF_THREE_ENDS if row != weights]
            self.assertIs(bars(THREE_ENDS, rows, self.WISH), False, weights)
        # From (0, 4, 0), that the world never comes to, a meeting leads to (0, 2, 2).
        self.assertIs(bars(THREE_ENDS, ALL_OF_THREE_ENDS + [(0, 4, 0)], self.WISH), False)

    def test_more_rows_than_are_needed(self):
        rows = [(0, 2, 2)] + ALL_OF_THREE_ENDS + [(0, 4, 0), (4, 0, 0), (1, 2, 1)]
        self.assertIs(bars(THREE_ENDS, rows, self.WISH), True)

    def test_many_worlds(self):
        for world in many_worlds():
            rows = sorted(table(world))
            for wish in [((0, 1, 2),), ((1, 2, 4),), ((0, 2, 2), (1, 1, 9)), ((1, 0, 0),), ((0, 31, 40),)]:
                never = way(world, wish) is None
                self.assertIs(bars(world, rows, wish), never, (world, wish))
                self.assertIs(bars(world, rows + rows[:1], wish), never, (world, wish))
            for lacking in range(len(rows)):
                self.assertIs(bars(world, rows[:lacking] + rows[lacking + 1:], ((0, 181, 190),)), False, world)

    def test_not_too_many(self):
        self.assertIs(bars(COMES_TO_MORE, [COMES_TO_MORE[0]], ((0, 0, 3),)), False)
        self.assertIs(bars(COMES_TO_3001, sorted(table(COMES_TO_3001)), ((0, 180, 180),)), True)

    def test_what_is_handed_in_stays(self):
        rows = [(0, 2, 2)] + ALL_OF_THREE_ENDS
        bars(THREE_ENDS, rows, self.WISH)
        self.assertEqual(rows, [(0, 2, 2)] + ALL_OF_THREE_ENDS)

    def test_bad_papers(self):
        for rows, number in BAD_PAPERS:
            with self.subTest(rows):
                kept = list(rows)
                self.assertEqual(refusal(BadPaper, bars, THREE_ENDS, rows, self.WISH).number, number)
                self.assertEqual(rows, kept)

    def test_bad_papers_ahead_of_bad_wishes(self):
        for rows, number in BAD_PAPERS:
            self.assertEqual(refusal(BadPaper, bars, THREE_ENDS, rows, ((3, 0, 0),)).number, number)

    def test_bad_worlds_ahead_of_both(self):
        world = ((4, 0, 0), ((0, 1), (0, 0)), ("half",))
        self.assertEqual(refusal(BadWorld, bars, world, [(4, 0)], ((3, 0, 0),)).number, 1)
        self.assertEqual(refusal(BadWorld, bars, world, [(4, 0, 0)], ((3, 0, 0),)).number, 1)
        self.assertEqual(refusal(BadWorld, bars, world, [(4, 0)], ()).number, 1)


class BadWishes(unittest.TestCase):
    def test_way(self):
        for wish, number in BAD_WISHES:
            with self.subTest(wish):
                self.assertEqual(refusal(BadWish, way, THREE_ENDS, wish).number, number)

    def test_bars(self):
        for wish, number in BAD_WISHES:
            with self.subTest(wish):
                self.assertEqual(refusal(BadWish, bars, THREE_ENDS, ALL_OF_THREE_ENDS, wish).number, number)
                self.assertEqual(refusal(BadWish, bars, THREE_ENDS, [], wish).number, number)

    def test_behind_bad_worlds(self):
        refused = refusal(BadWorld, way, ((4, 0, 0), (), ("half", 2)), ((3, 0, 0),))
        self.assertEqual((refused.part, refused.number), (2, 0))


class Many(unittest.TestCase):
    def test_three_thousand_are_told(self):
        steps = table(COMES_TO_3000)
        self.assertEqual(len(steps), 3000)
        self.assertEqual(reached(COMES_TO_3000), sorted(steps))
        self.assertEqual(way(COMES_TO_3000, ()), [])
        self.assertIsNone(way(COMES_TO_3000, ((0, 181, 181),)))
        self.assertEqual([row[0] for row in ends(COMES_TO_3000)],
                         sorted(weights for weights in steps if not changes(steps, weights)))

    def test_one_more_is_too_many(self):
        self.assertEqual(len(table(COMES_TO_3001)), 3001)
        for world in (COMES_TO_3001, COMES_TO_MORE):
            refusal(TooMany, reached, world)
            refusal(TooMany, ends, world)
            refusal(TooMany, way, world, ())
            refusal(TooMany, way, world, ((0, 181, 181),))

    def test_behind_all_else(self):
        self.assertEqual(refusal(BadWish, way, COMES_TO_MORE, ((0, 1, 1), (6, 0, 0))).number, 1)
        weights, pairs, _ = COMES_TO_MORE
        for call in (reached, ends):
            refused = refusal(BadWorld, call, (weights, pairs, ("some", 0)))
            self.assertEqual((refused.part, refused.number), (2, 0))


if __name__ == "__main__":
    unittest.main()
