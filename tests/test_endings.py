"""How long a world goes on: [6] and [7], and [1] as far as it speaks of these."""

import unittest

from heavierhall.endings import heights, longest, only_end, round_of, shows
from heavierhall.errors import BadPaper, BadWorld, TooMany
from heavierhall.worlds import gifts, met
from tests.helpers import (
    COMES_TO_3000, COMES_TO_3001, COMES_TO_MORE, LATE_ROUND, NO_PAIRS, ONE_END, ROUND_AND_END, STILL, SWAP, THREE_ENDS,
    changes, many_worlds, refusal, slow_longest, slow_round, slow_way, table,
)

HEIGHTS_OF_THREE_ENDS = [
    ((1, 1, 2), 0), ((1, 2, 1), 0), ((2, 0, 2), 1), ((2, 1, 1), 0), ((2, 2, 0), 1), ((4, 0, 0), 2),
]

# Of several rounds: no end at all.
ROUNDS = ((2, 0, 5, 5), ((2, 3), (0, 1), (1, 2), (0, 3)), ("some", 2))


class RoundOf(unittest.TestCase):
    def check(self, world):
        """Holds what round_of tells of a world with a round against what the document asks of it."""
        steps = table(world)
        told = round_of(world)
        self.assertIs(type(told), tuple, world)
        there, back = told
        self.assertIs(type(there), list)
        self.assertIs(type(back), list)
        weights = world[0]
        for place in there:
            weights = steps[weights][place]
        start = weights
        self.assertEqual(there, slow_way(world, steps, [start]), world)
        self.assertGreaterEqual(len(back), 1, world)
        for place in back:
            self.assertNotEqual(steps[weights][place], weights, world)
            weights = steps[weights][place]
        self.assertEqual(weights, start, world)

    def test_with_a_round(self):
        for world in (SWAP, LATE_ROUND, ROUND_AND_END, ROUNDS):
            with self.subTest(world):
                self.check(world)

    def test_just_one_round_can_be_told(self):
        self.assertIn(round_of(SWAP), [([], [0, 0]), ([0], [0, 0])])
        self.assertIn(round_of(LATE_ROUND), [([0], [0, 0]), ([0, 0], [0, 0])])

    def test_by_met_and_gifts(self):
        for world in (SWAP, LATE_ROUND, ROUND_AND_END, ROUNDS):
            there, back = round_of(world)
            self.assertEqual(met(world, there + back), met(world, there))
            self.assertNotIn(None, gifts(world, there + back)[len(there):])

    def test_without_a_round(self):
        for world in (THREE_ENDS, ONE_END, STILL, NO_PAIRS):
            self.assertIsNone(round_of(world), world)

    def test_many_worlds(self):
        rounds = 0
        for world in many_worlds():
            if slow_round(table(world)):
                rounds += 1
                self.check(world)
            else:
                self.assertIsNone(round_of(world), world)
        self.assertGreater(rounds, 50)
        self.assertGreater(len(many_worlds()) - rounds, 50)

    def test_told_anew(self):
        there, back = round_of(LATE_ROUND)
        there.append(5)
        back.clear()
        self.check(LATE_ROUND)


class Heights(unittest.TestCase):
    def test_by_hand(self):
        self.assertEqual(heights(THREE_ENDS), HEIGHTS_OF_THREE_ENDS)
        self.assertEqual(heights(((4, 0), ((0, 1),), ("half",))), [((2, 2), 0), ((4, 0), 1)])
        self.assertEqual(heights(ONE_END), [((4, 3, 2), 0), ((4, 4, 1), 1), ((8, 0, 1), 2)])

    def test_own_weights_are_the_end(self):
        self.assertEqual(heights(STILL), [((3, 3, 3), 0)])
        self.assertEqual(heights(NO_PAIRS), [((5, 1, 0), 0)])

    def test_with_a_round(self):
        for world in (SWAP, LATE_ROUND, ROUND_AND_END, ROUNDS):
            self.assertIsNone(heights(world), world)

    def test_many_worlds(self):
        for world in many_worlds():
            steps = table(world)
            wanted = None
            if not slow_round(steps):
                known = {}
                wanted = [(weights, len(slow_longest(steps, weights, known))) for weights in sorted(steps)]
            self.assertEqual(heights(world), wanted, world)

    def test_kinds_and_told_anew(self):
        told = heights(THREE_ENDS)
        self.assertIs(type(told), list)
        self.assertIs(type(told[0]), tuple)
        told.clear()
        self.assertEqual(heights(THREE_ENDS), HEIGHTS_OF_THREE_ENDS)


class Longest(unittest.TestCase):
    def test_by_hand(self):
        self.assertEqual(longest(THREE_ENDS), [0, 1])
        self.assertEqual(longest(ONE_END), [0, 1])
        self.assertEqual(longest(((4, 0), ((0, 1),), ("half",))), [0])

    def test_the_most_before_the_first(self):
        # Place 0 comes to (1, 1, 2), an end; place 2 to (0, 2, 2), and more is to be done.
        world = ((0, 1, 3), ((0, 2), (0, 1), (1, 2)), ("half",))
        self.assertEqual(longest(world), [2, 0])
        self.assertEqual(heights(world), [((0, 1, 3), 2), ((0, 2, 2), 1), ((1, 1, 2), 0), ((1, 2, 1), 0)])

    def test_own_weights_are_the_end(self):
        self.assertEqual(longest(STILL), [])
        self.assertEqual(longest(NO_PAIRS), [])

    def test_with_a_round(self):
        for world in (SWAP, LATE_ROUND, ROUND_AND_END, ROUNDS):
            self.assertIsNone(longest(world), world)

    def test_many_worlds(self):
        for world in many_worlds():
            steps = table(world)
            wanted = None if slow_round(steps) else slow_longest(steps, world[0], {})
            told = longest(world)
            self.assertEqual(told, wanted, world)
            if told is not None:
                self.assertNotIn(None, gifts(world, told), world)

    def test_told_anew(self):
        told = longest(THREE_ENDS)
        self.assertIs(type(told), list)
        told.append(3)
        self.assertEqual(longest(THREE_ENDS), [0, 1])


class OnlyEnd(unittest.TestCase):
    def test_one_end(self):
        self.assertEqual(only_end(((4, 0), ((0, 1),), ("half",))), (2, 2))
        self.assertEqual(only_end(ONE_END), (4, 3, 2))
        self.assertEqual(only_end(((3, 0, 0), ((0, 1), (1, 2)), ("half",))), (2, 1, 0))

    def test_own_weights_are_the_end(self):
        self.assertEqual(only_end(STILL), (3, 3, 3))
        self.assertEqual(only_end(NO_PAIRS), (5, 1, 0))

    def test_several_ends(self):
        self.assertIsNone(only_end(THREE_ENDS))

    def test_a_round(self):
        for world in (SWAP, LATE_ROUND, ROUNDS):
            self.assertIsNone(only_end(world), world)

    def test_a_round_beside_the_one_end(self):
        self.assertIsNone(only_end(ROUND_AND_END))

    def test_many_worlds(self):
        several = 0
        for world in many_worlds():
            steps = table(world)
            last = [weights for weights in steps if not changes(steps, weights)]
            several += len(last) > 1
            wanted = last[0] if len(last) == 1 and not slow_round(steps) else None
            self.assertEqual(only_end(world), wanted, world)
        self.assertGreater(several, 5)

    def test_kind(self):
        self.assertIs(type(only_end(STILL)), tuple)


class Shows(unittest.TestCase):
    ROWS = HEIGHTS_OF_THREE_ENDS

    def test_the_number(self):
        self.assertEqual(shows(THREE_ENDS, self.ROWS), 2)
        self.assertEqual(shows(THREE_ENDS, self.ROWS[::-1]), 2)
        self.assertEqual(shows(STILL, [((3, 3, 3), 0)]), 0)
        self.assertEqual(shows(NO_PAIRS, [((5, 1, 0), 12)]), 12)

    def test_higher_numbers_than_are_needed(self):
        rows = [((4, 0, 0), 99), ((2, 2, 0), 98), ((2, 0, 2), 5), ((1, 1, 2), 4), ((1, 2, 1), 97), ((2, 1, 1), 0)]
        self.assertEqual(shows(THREE_ENDS, rows), 99)

    def test_more_rows_than_are_needed(self):
        self.assertEqual(shows(THREE_ENDS, self.ROWS + [((0, 2, 2), 1)]), 2)
        self.assertEqual(shows(THREE_ENDS, self.ROWS + [((0, 4, 0), 7), ((0, 2, 2), 6)]), 2)

    def test_own_weights_are_not_there(self):
        self.assertIsNone(shows(THREE_ENDS, self.ROWS[:-1]))
        self.assertIsNone(shows(THREE_ENDS, []))
        self.assertIsNone(shows(STILL, [((3, 4, 2), 9), ((3, 2, 4), 9)]))

    def test_a_change_leads_to_weights_that_are_not_there(self):
        for lacking in range(len(self.ROWS)):
            self.assertIsNone(shows(THREE_ENDS, self.ROWS[:lacking] + self.ROWS[lacking + 1:]), lacking)
        self.assertIsNone(shows(THREE_ENDS, self.ROWS + [((0, 4, 0), 7)]))

    def test_a_change_leads_to_a_number_that_is_not_lesser(self):
        self.assertIsNone(shows(THREE_ENDS, self.ROWS + [((4, 0, 0), 1)]))
        self.assertIsNone(shows(THREE_ENDS, self.ROWS + [((4, 0, 0), 0)]))
        self.assertIsNone(shows(THREE_ENDS, self.ROWS + [((1, 2, 1), 1)]))
        self.assertIsNone(shows(THREE_ENDS, self.ROWS + [((2, 2, 0), 3)]))
        # The world never comes to (0, 2, 2), but it is there.
        self.assertIsNone(shows(THREE_ENDS, self.ROWS + [((0, 2, 2), 0)]))

    def test_the_last_of_the_same_weights_counts(self):
        self.assertEqual(shows(THREE_ENDS, [((4, 0, 0), 0), ((1, 2, 1), 50)] + self.ROWS), 2)
        self.assertEqual(shows(THREE_ENDS, self.ROWS + [((4, 0, 0), 7)]), 7)
        self.assertEqual(shows(THREE_ENDS, self.ROWS + [((4, 0, 0), 1), ((4, 0, 0), 3)]), 3)
        self.assertIsNone(shows(THREE_ENDS, self.ROWS + [((4, 0, 0), 3), ((4, 0, 0), 1)]))

    def test_a_round_is_never_shown_to_end(self):
        for numbers in [(0, 0), (1, 0), (0, 1), (5, 5)]:
            self.assertIsNone(shows(SWAP, [((1, 0), numbers[0]), ((0, 1), numbers[1])]))

    def test_what_gives_nothing_is_no_change(self):
        self.assertEqual(shows(((3, 2), ((0, 1),), ("half",)), [((3, 2), 0)]), 0)

    def test_many_worlds(self):
        for world in many_worlds():
            rows = heights(world)
            if rows is None:
                continue
            number = len(longest(world))
            self.assertEqual(shows(world, rows), number, world)
            self.assertEqual(shows(world, [(weights, 3 * at + 1) for weights, at in rows]), 3 * number + 1, world)
            for weights, at in rows:
                if at:
                    self.assertIsNone(shows(world, rows + [(weights, at - 1)]), world)

    def test_what_is_handed_in_stays(self):
        rows = list(self.ROWS) + [((4, 0, 0), 9)]
        kept = list(rows)
        shows(THREE_ENDS, rows)
        self.assertEqual(rows, kept)

    def test_bad_weights(self):
        for rows, number in [
            ([((4, 0), 0)], 0),
            ([((4, 0, 0, 0), 0)], 0),
            ([((), 0)], 0),
            ([((5, -1, 0), 0)], 0),
            ([((4, 0, 0), 0), ((4, 0, 1), 0)], 1),
            ([((4, 0, 0), 0), ((3, 0, 0), 0)], 1),
            ([((4, 0, 0), 0), ((2, 2, 0), 4), ((6, -1, -1), 0), ((4, 0), 0)], 2),
        ]:
            with self.subTest(rows):
                self.assertEqual(refusal(BadPaper, shows, THREE_ENDS, rows).number, number)

    def test_bad_numbers(self):
        for rows, number in [
            ([((4, 0, 0), -1)], 0),
            ([((4, 0, 0), 2), ((2, 2, 0), -1), ((2, 0, 2), -5)], 1),
            (self.ROWS + [((4, 0, 0), -3), ((4, 0, 0), 2)], 6),
        ]:
            with self.subTest(rows):
                self.assertEqual(refusal(BadPaper, shows, THREE_ENDS, rows).number, number)

    def test_all_weights_ahead_of_numbers(self):
        rows = [((4, 0, 0), -1), ((2, 2, 0), 0), ((4, 0), 0)]
        self.assertEqual(refusal(BadPaper, shows, THREE_ENDS, rows).number, 2)

    def test_behind_bad_worlds(self):
        refused = refusal(BadWorld, shows, ((4, 0, 0), ((0, 1), (2, 1)), ("half",)), [((4, 0), -1)])
        self.assertEqual((refused.part, refused.number), (1, 1))

    def test_not_too_many(self):
        self.assertIsNone(shows(COMES_TO_MORE, [(COMES_TO_MORE[0], 10)]))
        # What the world comes to, each with its own number, but it goes round.
        self.assertIsNone(shows(COMES_TO_3001, [(weights, 1) for weights in table(COMES_TO_3001)]))
        world = ((30, 29, 28, 27, 26, 25), (), ("even",))
        rows = [((30 + give, 29, 28, 27, 26, 25 - give), give) for give in range(26)] * 200
        self.assertEqual(shows(world, rows), 0)


class Many(unittest.TestCase):
    CALLS = (round_of, heights, longest, only_end)

    def test_three_thousand_are_told(self):
        steps = table(COMES_TO_3000)
        self.assertTrue(slow_round(steps))
        self.assertIsNone(heights(COMES_TO_3000))
        self.assertIsNone(longest(COMES_TO_3000))
        self.assertIsNone(only_end(COMES_TO_3000))
        RoundOf().check(COMES_TO_3000)

    def test_one_more_is_too_many(self):
        for world in (COMES_TO_3001, COMES_TO_MORE):
            for call in self.CALLS:
                refusal(TooMany, call, world)

    def test_behind_all_else(self):
        weights, pairs, _ = COMES_TO_MORE
        for call in self.CALLS:
            refused = refusal(BadWorld, call, (weights, pairs + ((0, 1),), ("some", 1)))
            self.assertEqual((refused.part, refused.number), (1, 15))


if __name__ == "__main__":
    unittest.main()
