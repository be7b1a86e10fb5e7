"""Two hands that choose in turn: [9] and [10], and [1], [2] and [4] as far as they speak of these."""

import unittest

from heavierhall.duels import chosen, forced, plan, wins
from heavierhall.errors import BadPaper, BadWish, BadWorld, TooMany
from tests.helpers import (
    COMES_TO_3000, COMES_TO_3001, COMES_TO_MORE, LATE_ROUND, NO_PAIRS, ONE_END, ROUND_AND_END, STILL, SWAP, THREE_ENDS,
    many_worlds, refusal, slow_forced, table,
)

BAD_WISHES = [
    (((-1, 0, 4),), 0),
    (((3, 0, 4),), 0),
    (((0, -1, 4),), 0),
    (((0, 3, 2),), 0),
    (((1, 0, 0), (1, 0, 0)), 1),
    (((0, 0, 0), (1, 0, 0), (2, 0, 0), (3, 0, 0)), 3),
    (((2, 0, 4), (0, 5, 4), (2, 0, 4)), 1),
]

# Thing 2 of THREE_ENDS is to weigh one: from (2, 2, 0), where two meetings do it, the other hand may leave all alike.
WISH = ((2, 1, 1),)
PLAN = [((1, 2, 1), 0, None), ((2, 0, 2), 1, 2), ((2, 1, 1), 0, None), ((2, 2, 0), 1, 1), ((4, 0, 0), 3, 0)]

# The weights are all moved at once: the first thing, then the second, or the third has them.
ALL_AT_ONCE = ((4, 0, 0), ((1, 2), (0, 1), (0, 2)), ("part", 1, 1))

# Just one pair, so the other hand has no choice.
NO_CHOICE = ((3, 0), ((0, 1),), ("some", 1))


def is_wished(weights, wish):
    return not [thing for thing, low, high in wish if weights[thing] not in range(low, high + 1)]


def many_wishes(world):
    """Some wishes for this world, the same ones each time."""
    weights = world[0]
    return [
        ((0, 1, 2),), ((1, 2, 4),), ((1, 3, 3), (0, 0, 1)), ((0, 2, 2), (1, 1, 9)), ((0, 0, 0),), (),
        tuple((thing, weight, weight) for thing, weight in enumerate(weights)),
        ((0, weights[1], weights[1]),), ((len(weights) - 1, 1, 1),),
    ]


def slow_plan(world, wish):
    """What plan is to tell, by the words."""
    steps = table(world)
    mine, other = slow_forced(steps, [weights for weights in steps if is_wished(weights, wish)])
    rows = []
    for weights in sorted(mine):
        places = [place for place, after in enumerate(steps[weights]) if other.get(after) == mine[weights] - 1]
        rows.append((weights, mine[weights], places[0] if mine[weights] else None))
    return rows


class Forced(unittest.TestCase):
    def test_so_already(self):
        self.assertEqual(forced(THREE_ENDS, ((0, 4, 4),)), 0)
        self.assertEqual(forced(THREE_ENDS, ()), 0)
        self.assertEqual(forced(SWAP, ((1, 0, 0), (0, 1, 1))), 0)

    def test_one(self):
        self.assertEqual(forced(THREE_ENDS, ((0, 2, 2),)), 1)
        self.assertEqual(forced(THREE_ENDS, ((2, 2, 2),)), 1)
        self.assertEqual(forced(SWAP, ((0, 0, 0),)), 1)

    def test_two_where_the_other_hand_must_do_it(self):
        self.assertEqual(forced(NO_CHOICE, ((0, 1, 1),)), 2)
        self.assertEqual(forced(LATE_ROUND, ((0, 2, 2),)), 2)

    def test_more(self):
        self.assertEqual(forced(THREE_ENDS, WISH), 3)
        self.assertEqual(forced(ONE_END, ((1, 3, 3),)), 3)
        self.assertEqual(forced(((0, 7), ((0, 1),), ("some", 1)), ((0, 4, 4),)), 4)
        self.assertEqual(forced(((4, 0, 0), ((0, 1), (1, 2)), ("even",)), ((0, 1, 1),)), 5)

    def test_hindered_for_ever(self):
        # From (2, 2, 0) and from (2, 0, 2) the other hand comes to an end at which thing 0 has two.
        self.assertIsNone(forced(THREE_ENDS, ((0, 1, 1),)))
        self.assertIsNone(forced(ROUND_AND_END, ((0, 0, 0),)))

    def test_never_come_to(self):
        self.assertIsNone(forced(THREE_ENDS, ((0, 3, 3),)))
        self.assertIsNone(forced(STILL, ((0, 2, 2),)))
        self.assertIsNone(forced(SWAP, ((0, 2, 5),)))

    def test_without_pairs(self):
        self.assertEqual(forced(NO_PAIRS, ((0, 5, 5),)), 0)
        self.assertIsNone(forced(NO_PAIRS, ((0, 4, 4),)))

    def test_where_it_goes_round(self):
        self.assertEqual(forced(ROUND_AND_END, ((0, 1, 1),)), 1)
        self.assertEqual(forced(LATE_ROUND, ((0, 1, 1),)), 1)
        self.assertIsNone(forced(LATE_ROUND, ((0, 0, 0),)))

    def test_many_worlds(self):
        numbers = []
        for world in many_worlds():
            for wish in many_wishes(world):
                wanted = {weights: number for weights, number, _ in slow_plan(world, wish)}.get(world[0])
                self.assertEqual(forced(world, wish), wanted, (world, wish))
                numbers.append(wanted)
        self.assertEqual(set(numbers), {None, 0, 1, 2, 3, 5, 7})


class Chosen(unittest.TestCase):
    def test_the_only_place(self):
        self.assertEqual(chosen(THREE_ENDS, ((2, 2, 2),)), 1)
        self.assertEqual(chosen(THREE_ENDS, WISH), 0)
        self.assertEqual(chosen(ROUND_AND_END, ((2, 1, 1),)), 1)
        self.assertEqual(chosen(NO_CHOICE, ((0, 1, 1),)), 0)

    def test_the_first_where_several_serve(self):
        self.assertEqual(chosen(THREE_ENDS, ((0, 2, 2),)), 0)
        self.assertEqual(chosen(ALL_AT_ONCE, ((0, 0, 0),)), 1)
        self.assertEqual(chosen(((2, 0, 2, 0), ((1, 3), (0, 1), (0, 3), (2, 3)), ("half",)), ((0, 1, 1),)), 1)

    def test_not_an_earlier_one_that_takes_longer(self):
        # Behind place 0 the other hand may only take that back, or do what is wished: that would be three meetings.
        world = ((3, 0, 1), ((1, 2), (0, 1)), ("part", 1, 1))
        self.assertEqual(forced(world, ((0, 0, 0),)), 1)
        self.assertEqual(chosen(world, ((0, 0, 0),)), 1)
        self.assertEqual(chosen(ALL_AT_ONCE, ((2, 4, 4),)), 2)

    def test_so_already(self):
        self.assertIsNone(chosen(THREE_ENDS, ((0, 4, 4),)))
        self.assertIsNone(chosen(THREE_ENDS, ()))
        self.assertIsNone(chosen(NO_PAIRS, ((0, 5, 5),)))

    def test_what_cannot_be_forced(self):
        self.assertIsNone(chosen(THREE_ENDS, ((0, 1, 1),)))
        self.assertIsNone(chosen(THREE_ENDS, ((0, 3, 3),)))
        self.assertIsNone(chosen(NO_PAIRS, ((0, 4, 4),)))

    def test_many_worlds(self):
        for world in many_worlds():
            for wish in many_wishes(world):
                wanted = {weights: place for weights, _, place in slow_plan(world, wish)}.get(world[0])
                self.assertEqual(chosen(world, wish), wanted, (world, wish))


class Plan(unittest.TestCase):
    def test_by_hand(self):
        self.assertEqual(plan(THREE_ENDS, WISH), PLAN)
        self.assertEqual(plan(SWAP, ((0, 0, 0),)), [((0, 1), 0, None), ((1, 0), 1, 0)])
        self.assertEqual(plan(NO_CHOICE, ((0, 1, 1),)), [((1, 2), 0, None), ((2, 1), 1, 0), ((3, 0), 2, 0)])
        self.assertEqual(plan(ALL_AT_ONCE, ((2, 4, 4),)), [
            ((0, 0, 4), 0, None), ((0, 4, 0), 1, 0), ((4, 0, 0), 1, 2),
        ])

    def test_own_weights_may_lack(self):
        self.assertEqual(plan(THREE_ENDS, ((0, 1, 1),)), [
            ((1, 1, 2), 0, None), ((1, 2, 1), 0, None), ((2, 0, 2), 1, 0), ((2, 2, 0), 1, 1),
        ])

    def test_nothing_can_be_forced(self):
        self.assertEqual(plan(THREE_ENDS, ((0, 3, 3),)), [])
        self.assertEqual(plan(NO_PAIRS, ((0, 4, 4),)), [])

    def test_without_pairs(self):
        self.assertEqual(plan(NO_PAIRS, ((0, 5, 5),)), [((5, 1, 0), 0, None)])

    def test_rows_of_many_worlds(self):
        for world in many_worlds():
            for wish in many_wishes(world):
                self.assertEqual(plan(world, wish), slow_plan(world, wish), (world, wish))

    def test_held_against_forced_and_chosen_of_each(self):
        for world in many_worlds():
            _, pairs, rule = world
            wish = ((0, 1, 2), (1, 0, 3))
            rows = {weights: told for weights, *told in plan(world, wish)}
            for weights in table(world):
                number, place = rows.get(weights, (None, None))
                self.assertEqual(forced((weights, pairs, rule), wish), number, (world, weights))
                self.assertEqual(chosen((weights, pairs, rule), wish), place, (world, weights))

    def test_kinds_and_told_anew(self):
        told = plan(THREE_ENDS, WISH)
        self.assertIs(type(told), list)
        self.assertIs(type(told[0]), tuple)
        told.clear()
        self.assertEqual(plan(THREE_ENDS, WISH), PLAN)


class Wins(unittest.TestCase):
    # All that is needed: what the other hand may choose behind (2, 2, 0) leads to these, or is as wished.
    FEWEST = [((4, 0, 0), 3, 0), ((2, 2, 0), 1, 1)]

    def test_the_plan(self):
        self.assertEqual(wins(THREE_ENDS, WISH, PLAN), 3)
        self.assertEqual(wins(THREE_ENDS, WISH, PLAN[::-1]), 3)

    def test_fewer_rows(self):
        self.assertEqual(wins(THREE_ENDS, WISH, self.FEWEST), 3)

    def test_plans_of_many_worlds(self):
        for world in many_worlds():
            for wish in many_wishes(world):
                rows = plan(world, wish)
                self.assertEqual(wins(world, wish, rows), forced(world, wish), (world, wish))
                higher = [(weights, 3 * number, place) for weights, number, place in rows]
                own = forced(world, wish)
                self.assertEqual(wins(world, wish, higher), own and 3 * own, (world, wish))

    def test_no_number_of_a_plan_can_be_less(self):
        for world in many_worlds():
            for wish in many_wishes(world):
                for weights, number, place in plan(world, wish):
                    if number:
                        rows = plan(world, wish) + [(weights, number - 1, place)]
                        self.assertIsNone(wins(world, wish, rows), (world, wish, weights))

    def test_own_weights_are_not_there(self):
        self.assertIsNone(wins(THREE_ENDS, WISH, PLAN[:-1]))
        self.assertIsNone(wins(THREE_ENDS, WISH, []))
        self.assertIsNone(wins(THREE_ENDS, (), []))
        self.assertIsNone(wins(NO_PAIRS, ((0, 4, 4),), [((4, 1, 1), 0, None)]))

    def test_without_a_place_as_wished(self):
        self.assertEqual(wins(THREE_ENDS, ((0, 4, 4),), [((4, 0, 0), 0, None)]), 0)
        self.assertEqual(wins(THREE_ENDS, ((0, 4, 4),), [((4, 0, 0), 7, None)]), 7)
        self.assertEqual(wins(THREE_ENDS, (), [((4, 0, 0), 1, None)]), 1)
        self.assertEqual(wins(NO_PAIRS, ((0, 5, 5),), [((5, 1, 0), 2, None)]), 2)

    def test_without_a_place_not_as_wished(self):
        self.assertIsNone(wins(THREE_ENDS, ((0, 2, 2),), [((4, 0, 0), 0, None)]))
        self.assertIsNone(wins(THREE_ENDS, ((0, 2, 2),), [((4, 0, 0), 5, None)]))
        self.assertIsNone(wins(THREE_ENDS, WISH, self.FEWEST + [((2, 0, 2), 3, None)]))

    def test_a_meeting_that_leads_to_the_wish(self):
        self.assertEqual(wins(THREE_ENDS, ((0, 2, 2),), [((4, 0, 0), 1, 0)]), 1)
        self.assertEqual(wins(THREE_ENDS, ((0, 2, 2),), [((4, 0, 0), 1, 1)]), 1)
        self.assertEqual(wins(THREE_ENDS, ((0, 2, 2),), [((4, 0, 0), 4, 1)]), 4)
        # One that gives nothing, where all is as wished.
        self.assertEqual(wins(THREE_ENDS, ((0, 4, 4),), [((4, 0, 0), 1, 2)]), 1)

    def test_a_meeting_that_leads_to_the_wish_takes_one(self):
        self.assertIsNone(wins(THREE_ENDS, ((0, 2, 2),), [((4, 0, 0), 0, 0)]))
        self.assertIsNone(wins(THREE_ENDS, ((0, 4, 4),), [((4, 0, 0), 0, 2)]))
        self.assertIsNone(wins(THREE_ENDS, WISH, [((4, 0, 0), 3, 0), ((2, 2, 0), 0, 1)]))

    def test_a_meeting_that_leads_elsewhere(self):
        self.assertIsNone(wins(THREE_ENDS, ((0, 2, 2),), [((4, 0, 0), 1, 2)]))
        self.assertIsNone(wins(THREE_ENDS, ((0, 2, 2),), [((4, 0, 0), 50, 2)]))

    def test_with_a_place_it_is_of_no_use_to_be_as_wished(self):
        self.assertIsNone(wins(THREE_ENDS, ((0, 4, 4),), [((4, 0, 0), 0, 0)]))
        self.assertIsNone(wins(THREE_ENDS, ((0, 4, 4),), [((4, 0, 0), 9, 0)]))

    def test_the_other_hand_must_do_it(self):
        self.assertEqual(wins(NO_CHOICE, ((0, 1, 1),), [((3, 0), 2, 0)]), 2)
        self.assertEqual(wins(NO_CHOICE, ((0, 1, 1),), [((3, 0), 3, 0)]), 3)
        self.assertIsNone(wins(NO_CHOICE, ((0, 1, 1),), [((3, 0), 1, 0)]))
        self.assertIsNone(wins(NO_CHOICE, ((0, 1, 1),), [((3, 0), 0, 0)]))
        # What is as wished may stand there with a number that isn't less.
        self.assertEqual(wins(NO_CHOICE, ((0, 1, 1),), [((3, 0), 2, 0), ((1, 2), 8, None)]), 2)

    def test_the_other_hand_leads_to_what_is_not_there(self):
        self.assertIsNone(wins(THREE_ENDS, WISH, [((4, 0, 0), 3, 0)]))
        # Place 1 leads to (2, 0, 2), and from there the other hand to (1, 1, 2), where thing 2 has two.
        self.assertIsNone(wins(THREE_ENDS, WISH, [((4, 0, 0), 9, 1), ((2, 0, 2), 1, 2), ((2, 2, 0), 1, 1)]))

    def test_the_other_hand_leads_to_a_number_that_is_not_less_by_two(self):
        self.assertIsNone(wins(THREE_ENDS, WISH, [((4, 0, 0), 2, 0), ((2, 2, 0), 1, 1)]))
        self.assertIsNone(wins(THREE_ENDS, WISH, [((4, 0, 0), 3, 0), ((2, 2, 0), 2, 1)]))
        self.assertIsNone(wins(THREE_ENDS, WISH, [((4, 0, 0), 5, 0), ((2, 2, 0), 5, 1)]))
        self.assertEqual(wins(THREE_ENDS, WISH, [((4, 0, 0), 4, 0), ((2, 2, 0), 2, 1)]), 4)

    def test_a_round_shows_nothing(self):
        world = ((5, 0), ((0, 1),), ("part", 1, 1))
        for number in range(5):
            self.assertIsNone(wins(world, ((0, 3, 3),), [((5, 0), number, 0), ((0, 5), number, 0)]))
            self.assertIsNone(wins(world, ((0, 3, 3),), [((5, 0), number, 0)]))

    def test_more_rows_than_are_needed(self):
        # The world never comes to (0, 3, 1) and (3, 0, 1).
        self.assertEqual(wins(THREE_ENDS, WISH, self.FEWEST + [((0, 3, 1), 0, None)]), 3)
        self.assertEqual(wins(THREE_ENDS, WISH, [((0, 3, 1), 4, None)] + PLAN + [((3, 0, 1), 1, 2)]), 3)
        self.assertEqual(wins(THREE_ENDS, WISH, [((2, 0, 2), 12, 2)] + self.FEWEST), 3)

    def test_each_row_is_to_hold(self):
        for row in [((0, 0, 4), 9, None), ((0, 0, 4), 9, 0), ((2, 0, 2), 0, 2), ((1, 1, 2), 7, 0)]:
            self.assertIsNone(wins(THREE_ENDS, WISH, self.FEWEST + [row]), row)
            self.assertIsNone(wins(THREE_ENDS, WISH, [row] + self.FEWEST), row)

    def test_the_last_of_the_same_weights_counts(self):
        self.assertEqual(wins(THREE_ENDS, WISH, [((4, 0, 0), 0, None), ((2, 2, 0), 0, 0)] + self.FEWEST), 3)
        self.assertEqual(wins(THREE_ENDS, WISH, self.FEWEST + [((4, 0, 0), 8, 0)]), 8)
        self.assertIsNone(wins(THREE_ENDS, WISH, self.FEWEST + [((4, 0, 0), 8, 1)]))
        self.assertIsNone(wins(THREE_ENDS, WISH, self.FEWEST + [((4, 0, 0), 3, None)]))
        self.assertIsNone(wins(THREE_ENDS, WISH, self.FEWEST + [((2, 2, 0), 2, 1)]))
        self.assertIsNone(wins(THREE_ENDS, WISH, self.FEWEST + [((2, 2, 0), 1, 0)]))

    def test_what_is_handed_in_stays(self):
        rows = [((4, 0, 0), 9, 1)] + PLAN[::-1]
        kept = list(rows)
        wins(THREE_ENDS, WISH, rows)
        self.assertEqual(rows, kept)


class Papers(unittest.TestCase):
    def check(self, rows, number):
        with self.subTest(rows):
            kept = list(rows)
            self.assertEqual(refusal(BadPaper, wins, THREE_ENDS, WISH, rows).number, number)
            self.assertEqual(rows, kept)

    def test_weights(self):
        self.check([((4, 0), 0, None)], 0)
        self.check([((4, 0, 0, 0), 0, None)], 0)
        self.check([((), 0, None)], 0)
        self.check([((5, -1, 0), 0, None)], 0)
        self.check([((4, 0, 0), 3, 0), ((4, 0, 1), 0, None)], 1)
        self.check([((4, 0, 0), 3, 0), ((2, 2, 0), 1, 1), ((3, 0, 0), 0, 0), ((4, 0), 0, None)], 2)

    def test_numbers(self):
        self.check([((4, 0, 0), -1, 0)], 0)
        self.check([((4, 0, 0), -1, None)], 0)
        self.check(PLAN + [((4, 0, 0), -2, 0), ((4, 0, 0), 3, 0)], 5)

    def test_places(self):
        self.check([((4, 0, 0), 3, -1)], 0)
        self.check([((4, 0, 0), 3, 3)], 0)
        self.check(PLAN[:3] + [((2, 2, 0), 1, 3)] + PLAN[3:], 3)
        for place in (0, 1, -1):
            self.assertEqual(refusal(BadPaper, wins, NO_PAIRS, (), [((5, 1, 0), 0, place)]).number, 0)

    def test_the_first_of_numbers_and_places(self):
        self.check([((4, 0, 0), 3, 0), ((2, 2, 0), 1, 3), ((4, 0, 0), -1, 0)], 1)
        self.check([((4, 0, 0), 3, 0), ((2, 2, 0), -1, 1), ((4, 0, 0), 1, 3)], 1)

    def test_all_weights_ahead_of_numbers_and_places(self):
        self.check([((4, 0, 0), -1, 0), ((2, 2, 0), 1, 1), ((4, 0), 0, None)], 2)
        self.check([((4, 0, 0), 3, 9), ((4, 1, 0), 0, None)], 1)


class Refused(unittest.TestCase):
    CALLS = (forced, chosen, plan, lambda world, wish: wins(world, wish, []))

    def test_wishes(self):
        for call in self.CALLS:
            for wish, number in BAD_WISHES:
                with self.subTest(wish):
                    self.assertEqual(refusal(BadWish, call, THREE_ENDS, wish).number, number)

    def test_wishes_ahead_of_papers(self):
        for wish, number in BAD_WISHES:
            for row in (((4, 0), 0, None), ((4, 0, 0), -1, 0), ((4, 0, 0), 0, 3)):
                self.assertEqual(refusal(BadWish, wins, THREE_ENDS, wish, [row]).number, number)

    def test_worlds_ahead_of_all(self):
        world = ((4, 0, 0), ((0, 1), (1, 0)), ("half",))
        for call in self.CALLS:
            for wish in ((), ((3, 0, 0),)):
                refused = refusal(BadWorld, call, world, wish)
                self.assertEqual((refused.part, refused.number), (1, 1))
        self.assertEqual(refusal(BadWorld, wins, world, ((3, 0, 0),), [((4,), -1, 5)]).number, 1)
        self.assertEqual(refusal(BadWorld, wins, world, (), [((4,), -1, 5)]).number, 1)


class Many(unittest.TestCase):
    CALLS = (forced, chosen, plan)

    def test_three_thousand_are_told(self):
        wish = ((0, 18, 20), (3, 0, 17))
        rows = plan(COMES_TO_3000, wish)
        self.assertEqual(rows, slow_plan(COMES_TO_3000, wish))
        self.assertEqual(wins(COMES_TO_3000, wish, rows), forced(COMES_TO_3000, wish))
        self.assertEqual(forced(COMES_TO_3000, ()), 0)
        self.assertIsNone(chosen(COMES_TO_3000, ()))

    def test_one_more_is_too_many(self):
        for world in (COMES_TO_3001, COMES_TO_MORE):
            for call in self.CALLS:
                for wish in ((), ((0, 181, 181),)):
                    refusal(TooMany, call, world, wish)

    def test_behind_wishes(self):
        for call in self.CALLS:
            self.assertEqual(refusal(BadWish, call, COMES_TO_MORE, ((0, 1, 1), (6, 0, 0))).number, 1)
            self.assertEqual(refusal(BadWorld, call, COMES_TO_MORE[:2] + ((),), ((6, 0, 0),)).part, 2)

    def test_not_too_many_for_wins(self):
        for world in (COMES_TO_3001, COMES_TO_MORE):
            self.assertEqual(wins(world, (), [(world[0], 3, None)]), 3)
            self.assertIsNone(wins(world, ((0, 181, 181),), [(world[0], 3, 0)]))


if __name__ == "__main__":
    unittest.main()
