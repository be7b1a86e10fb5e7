"""A hall that goes on deed by deed: [11] and [12], and [1] as far as it speaks of these."""

import unittest

from heavierhall.errors import BadCount, BadDeed, BadWorld, NoPair, NoThing
from heavierhall.halls import Hall, again
from heavierhall.reaching import reached
from tests.helpers import ALL_RULES, NO_RULES, gift, refusal

HALF = ("half",)


def hall_of(weights, links=(), rule=HALF):
    """A hall in which these came, and may meet."""
    hall = Hall(rule)
    for weight in weights:
        hall.come(weight)
    for one, other in links:
        hall.link(one, other)
    return hall


def told(hall):
    """All that a hall tells of itself."""
    return hall.weights(), hall.pairs(), hall.still(), hall.world(), hall.deeds()


class Asking(unittest.TestCase):
    def refused(self, hall, error, call, *handed):
        """The refusal, which is to change nothing, neither what is told nor what can be taken back."""
        before = told(hall)
        refusal_told = refusal(error, call, *handed)
        self.assertEqual(told(hall), before)
        return refusal_told


class Come(Asking):
    def test_numbers(self):
        hall = Hall(HALF)
        self.assertEqual([hall.come(weight) for weight in (5, 0, 30, 5)], [0, 1, 2, 3])
        self.assertEqual(hall.weights(), {0: 5, 1: 0, 2: 30, 3: 5})

    def test_weights(self):
        hall = hall_of((4,))
        for weight in (-1, 31, -30, 1000):
            self.refused(hall, BadCount, hall.come, weight)
        self.assertEqual(hall.come(0), 1)

    def test_the_twenty_first(self):
        hall = hall_of(range(20))
        self.refused(hall, BadCount, hall.come, 3)
        self.assertEqual(hall.leave(19), 19)
        self.assertEqual(hall.leave(0), 0)
        self.refused(hall, BadCount, hall.come, 3)

    def test_the_twenty_first_though_others_left(self):
        hall = Hall(HALF)
        for number in range(20):
            self.assertEqual(hall.come(7), number)
            hall.leave(number)
        self.refused(hall, BadCount, hall.come, 7)
        self.assertEqual(hall.weights(), {})

    def test_what_was_refused_is_not_counted(self):
        hall = Hall(HALF)
        for _ in range(30):
            self.refused(hall, BadCount, hall.come, 31)
        self.assertEqual([hall.come(1) for _ in range(20)], list(range(20)))
        self.refused(hall, BadCount, hall.come, 1)

    def test_no_number_comes_again(self):
        hall = hall_of((1, 2, 3))
        hall.leave(2)
        self.assertEqual(hall.come(9), 3)
        hall.leave(0)
        hall.leave(1)
        hall.leave(3)
        self.assertEqual(hall.come(8), 4)
        self.assertEqual(hall.weights(), {4: 8})


class Link(Asking):
    def test_both_orders(self):
        hall = hall_of((1, 2, 3))
        self.assertIsNone(hall.link(2, 0))
        self.assertIsNone(hall.link(0, 1))
        self.assertEqual(hall.pairs(), [(0, 1), (0, 2)])

    def test_may_meet_already(self):
        hall = hall_of((1, 2, 3), [(0, 1), (2, 1)])
        for one, other in [(0, 1), (1, 0), (1, 2), (2, 1)]:
            self.refused(hall, NoPair, hall.link, one, other)

    def test_one_thing(self):
        hall = hall_of((1, 2))
        self.refused(hall, NoPair, hall.link, 0, 0)
        self.refused(hall, NoPair, hall.link, 1, 1)
        self.assertEqual(hall.pairs(), [])

    def test_linked_anew(self):
        hall = hall_of((1, 2), [(0, 1)])
        hall.cut(0, 1)
        self.assertIsNone(hall.link(1, 0))
        self.assertEqual(hall.pairs(), [(0, 1)])


class Cut(Asking):
    def test_both_orders(self):
        hall = hall_of((1, 2, 3), [(0, 1), (1, 2)])
        self.assertIsNone(hall.cut(1, 0))
        self.assertEqual(hall.pairs(), [(1, 2)])
        self.assertIsNone(hall.cut(1, 2))
        self.assertEqual(hall.pairs(), [])

    def test_may_not_meet(self):
        hall = hall_of((1, 2, 3), [(0, 1)])
        for one, other in [(0, 2), (2, 0), (1, 2), (2, 1)]:
            self.refused(hall, NoPair, hall.cut, one, other)
        hall.cut(0, 1)
        self.refused(hall, NoPair, hall.cut, 0, 1)

    def test_one_thing(self):
        hall = hall_of((1, 2), [(0, 1)])
        self.refused(hall, NoPair, hall.cut, 0, 0)
        self.refused(hall, NoPair, hall.cut, 1, 1)


class Meet(Asking):
    def test_what_is_given(self):
        hall = hall_of((9, 2, 2), [(0, 1), (1, 2)])
        self.assertEqual(hall.meet(0, 1), (0, 1, 3))
        self.assertEqual(hall.weights(), {0: 6, 1: 5, 2: 2})
        self.assertEqual(hall.meet(1, 2), (1, 2, 1))
        self.assertEqual(hall.weights(), {0: 6, 1: 4, 2: 3})

    def test_both_orders(self):
        hall = hall_of((9, 2, 14), [(0, 1), (1, 2)])
        self.assertEqual(hall.meet(1, 0), (0, 1, 3))
        self.assertEqual(hall.meet(1, 2), (2, 1, 4))
        self.assertEqual(hall.weights(), {0: 6, 1: 9, 2: 10})
        self.assertEqual(hall_of((2, 9), [(1, 0)]).meet(0, 1), (1, 0, 3))

    def test_nothing_is_given(self):
        hall = hall_of((4, 4, 3), [(0, 1), (1, 2)])
        self.assertIsNone(hall.meet(0, 1))
        self.assertIsNone(hall.meet(2, 1))
        self.assertEqual(hall.weights(), {0: 4, 1: 4, 2: 3})
        self.assertEqual(hall.deeds()[-2:], [("meet", 0, 1), ("meet", 2, 1)])

    def test_all_rules(self):
        for rule in ALL_RULES:
            for weights in [(0, 30), (7, 3), (1, 0), (12, 12), (29, 30), (2, 11)]:
                hall = hall_of(weights, [(0, 1)], rule)
                self.assertEqual(hall.meet(0, 1), gift((weights, ((0, 1),), rule), weights, 0), (rule, weights))

    def test_above_thirty(self):
        hall = hall_of((30, 29), [(0, 1)], ("part", 1, 1))
        self.assertEqual(hall.meet(0, 1), (0, 1, 30))
        self.assertEqual(hall.weights(), {0: 0, 1: 59})
        self.assertEqual(hall.meet(0, 1), (1, 0, 59))

    def test_may_not_meet(self):
        hall = hall_of((1, 2, 3), [(0, 1)])
        self.refused(hall, NoPair, hall.meet, 0, 2)
        self.refused(hall, NoPair, hall.meet, 2, 1)
        hall.cut(0, 1)
        self.refused(hall, NoPair, hall.meet, 0, 1)

    def test_one_thing(self):
        hall = hall_of((5, 2), [(0, 1)])
        self.refused(hall, NoPair, hall.meet, 0, 0)
        self.refused(hall, NoPair, hall.meet, 1, 1)


class Leave(Asking):
    def test_the_weight(self):
        hall = hall_of((9, 2), [(0, 1)])
        hall.meet(0, 1)
        self.assertEqual(hall.leave(0), 6)
        self.assertEqual(hall.weights(), {1: 5})
        self.assertEqual(hall.leave(1), 5)
        self.assertEqual(hall.weights(), {})

    def test_its_links_go(self):
        hall = hall_of((9, 2, 3, 4), [(0, 1), (1, 2), (3, 1), (0, 3), (2, 3)])
        hall.leave(1)
        self.assertEqual(hall.pairs(), [(0, 3), (2, 3)])
        hall.leave(3)
        self.assertEqual(hall.pairs(), [])
        self.assertEqual(hall.come(5), 4)
        self.assertEqual(hall.pairs(), [])

    def test_not_in(self):
        hall = hall_of((9, 2))
        for number in (2, -1, 20):
            self.assertEqual(self.refused(hall, NoThing, hall.leave, number).number, number)
        hall.leave(0)
        self.assertEqual(self.refused(hall, NoThing, hall.leave, 0).number, 0)


class NotIn(Asking):
    def test_the_first_that_is_not_in(self):
        hall = hall_of((9, 2, 5, 5), [(0, 1), (1, 3)])
        hall.leave(1)
        for call in (hall.link, hall.cut, hall.meet):
            for one, other, number in [
                (1, 0, 1), (0, 1, 1), (4, 0, 4), (0, 4, 4), (4, 1, 4), (1, 4, 1), (-1, 0, -1), (2, -1, -1),
                (-1, 20, -1), (20, -1, 20), (1, 1, 1), (4, 4, 4), (1, 3, 1), (3, 1, 1),
            ]:
                self.assertEqual(self.refused(hall, NoThing, call, one, other).number, number)

    def test_an_empty_hall(self):
        hall = Hall(HALF)
        for call in (hall.link, hall.cut, hall.meet):
            self.assertEqual(self.refused(hall, NoThing, call, 1, 0).number, 1)
        self.assertEqual(self.refused(hall, NoThing, hall.leave, 0).number, 0)


class Back(Asking):
    def test_one(self):
        hall = hall_of((9, 2), [(0, 1)])
        present = hall.meet(1, 0)
        self.assertEqual(hall.back(), present)
        self.assertEqual(hall.weights(), {0: 9, 1: 2})

    def test_in_turn(self):
        hall = hall_of((16, 0, 0), [(0, 1), (1, 2)])
        trail = [(hall.weights(), hall.meet(one, other)) for one, other in [(0, 1), (1, 2), (0, 1), (2, 1), (1, 0)]]
        for weights, present in trail[::-1]:
            self.assertEqual(hall.back(), present)
            self.assertEqual(hall.weights(), weights)
        self.refused(hall, BadCount, hall.back)

    def test_one_that_gave_nothing(self):
        hall = hall_of((4, 0, 2), [(0, 1), (1, 2)])
        self.assertEqual(hall.meet(0, 1), (0, 1, 2))
        self.assertIsNone(hall.meet(1, 2))
        self.assertIsNone(hall.back())
        self.assertEqual(hall.weights(), {0: 2, 1: 2, 2: 2})
        self.assertEqual(hall.back(), (0, 1, 2))
        self.assertEqual(hall.weights(), {0: 4, 1: 0, 2: 2})
        self.refused(hall, BadCount, hall.back)

    def test_meetings_between(self):
        hall = hall_of((16, 0), [(0, 1)], ("some", 3))
        self.assertEqual(hall.meet(0, 1), (0, 1, 3))
        self.assertEqual(hall.meet(0, 1), (0, 1, 3))
        self.assertEqual(hall.back(), (0, 1, 3))
        self.assertEqual(hall.weights(), {0: 13, 1: 3})
        self.assertEqual(hall.meet(0, 1), (0, 1, 3))
        self.assertEqual(hall.meet(0, 1), (0, 1, 3))
        self.assertEqual(hall.meet(0, 1), (1, 0, 3))
        for _ in range(4):
            hall.back()
        self.assertEqual(hall.weights(), {0: 16, 1: 0})
        self.refused(hall, BadCount, hall.back)

    def test_where_giving_once_more_would_not_take_it_back(self):
        hall = hall_of((3, 0), [(0, 1)], ("even",))
        self.assertEqual(hall.meet(0, 1), (0, 1, 2))
        self.assertEqual(hall.back(), (0, 1, 2))
        self.assertEqual(hall.weights(), {0: 3, 1: 0})

    def test_without_one(self):
        self.refused(Hall(HALF), BadCount, Hall(HALF).back)
        hall = hall_of((9, 2), [(0, 1)])
        self.refused(hall, BadCount, hall.back)
        hall.meet(0, 1)
        hall.back()
        self.refused(hall, BadCount, hall.back)

    def test_behind_come(self):
        hall = hall_of((9, 2), [(0, 1)])
        hall.meet(0, 1)
        hall.come(4)
        self.refused(hall, BadCount, hall.back)
        hall.meet(0, 1)
        self.assertEqual(hall.back(), None)
        self.refused(hall, BadCount, hall.back)

    def test_behind_leave(self):
        hall = hall_of((9, 2, 7), [(0, 1)])
        hall.meet(0, 1)
        hall.meet(0, 1)
        hall.leave(2)
        self.refused(hall, BadCount, hall.back)
        self.assertEqual(hall.weights(), {0: 6, 1: 5})

    def test_behind_refusals(self):
        hall = hall_of((9, 2), [(0, 1)])
        hall.meet(0, 1)
        self.refused(hall, BadCount, hall.come, 31)
        self.refused(hall, NoThing, hall.leave, 2)
        self.refused(hall, NoPair, hall.meet, 0, 0)
        self.refused(hall, NoThing, hall.meet, 0, 5)
        self.refused(hall, NoPair, hall.link, 0, 1)
        self.assertEqual(hall.back(), (0, 1, 3))

    def test_behind_a_twenty_first(self):
        hall = hall_of((9,) + (1,) * 19, [(0, 1)])
        hall.meet(0, 1)
        self.refused(hall, BadCount, hall.come, 5)
        self.assertEqual(hall.back(), (0, 1, 4))

    def test_behind_links_and_cuts(self):
        hall = hall_of((9, 2, 7), [(0, 1)])
        hall.meet(0, 1)
        hall.link(1, 2)
        hall.cut(1, 0)
        self.assertEqual(hall.back(), (0, 1, 3))
        self.assertEqual(hall.weights(), {0: 9, 1: 2, 2: 7})
        self.assertEqual(hall.pairs(), [(1, 2)])

    def test_asking_is_no_deed(self):
        hall = hall_of((9, 2), [(0, 1)])
        hall.meet(0, 1)
        told(hall)
        self.assertEqual(hall.back(), (0, 1, 3))
        self.assertEqual(hall.deeds(), [("come", 9), ("come", 2), ("link", 0, 1), ("meet", 0, 1), ("back",)])


class Told(Asking):
    def test_an_empty_hall(self):
        self.assertEqual(told(Hall(HALF)), ({}, [], True, ((), (), HALF), []))

    def test_behind_things_that_left(self):
        hall = hall_of((9, 2, 7, 4, 1), [(4, 0), (3, 2), (0, 1), (2, 4), (1, 3), (0, 3)])
        hall.leave(1)
        self.assertEqual(hall.weights(), {0: 9, 2: 7, 3: 4, 4: 1})
        self.assertEqual(list(hall.weights()), [0, 2, 3, 4])
        self.assertEqual(hall.pairs(), [(0, 3), (0, 4), (2, 3), (2, 4)])
        self.assertEqual(hall.world(), ((9, 7, 4, 1), ((0, 2), (0, 3), (1, 2), (1, 3)), HALF))
        hall.leave(0)
        self.assertEqual(hall.world(), ((7, 4, 1), ((0, 1), (0, 2)), HALF))
        self.assertEqual(hall.come(12), 5)
        hall.link(5, 3)
        self.assertEqual(hall.pairs(), [(2, 3), (2, 4), (3, 5)])
        self.assertEqual(hall.world(), ((7, 4, 1, 12), ((0, 1), (0, 2), (1, 3)), HALF))
        self.assertIn((7, 4, 1, 12), reached(hall.world()))

    def test_worlds_beyond_what_a_world_may_be(self):
        self.assertEqual(hall_of((4,)).world(), ((4,), (), HALF))
        hall = hall_of((30,) * 19 + (1,), [(0, 19), (1, 19)], ("part", 1, 1))
        hall.meet(0, 19)
        hall.meet(1, 19)
        self.assertEqual(hall.world(), ((0, 61) + (30,) * 17 + (0,), ((0, 19), (1, 19)), ("part", 1, 1)))

    def test_still(self):
        hall = hall_of((9, 2, 2, 1))
        self.assertIs(hall.still(), True)
        hall.link(1, 2)
        hall.link(2, 3)
        self.assertIs(hall.still(), True)
        hall.link(0, 1)
        self.assertIs(hall.still(), False)
        hall.cut(0, 1)
        self.assertIs(hall.still(), True)
        hall.link(0, 1)
        hall.leave(0)
        self.assertIs(hall.still(), True)

    def test_still_behind_meetings(self):
        hall = hall_of((4, 0), [(0, 1)])
        self.assertIs(hall.still(), False)
        hall.meet(0, 1)
        self.assertIs(hall.still(), True)
        hall.back()
        self.assertIs(hall.still(), False)

    def test_deeds(self):
        hall = hall_of((9, 2), [(1, 0)])
        hall.meet(1, 0)
        hall.back()
        hall.meet(0, 1)
        hall.cut(1, 0)
        hall.leave(0)
        hall.come(0)
        self.assertEqual(hall.deeds(), [
            ("come", 9), ("come", 2), ("link", 1, 0), ("meet", 1, 0), ("back",), ("meet", 0, 1), ("cut", 1, 0),
            ("leave", 0), ("come", 0),
        ])

    def test_kinds(self):
        hall = hall_of((9, 2), [(0, 1)])
        self.assertIs(type(hall.weights()), dict)
        self.assertIs(type(hall.pairs()), list)
        self.assertIs(type(hall.pairs()[0]), tuple)
        self.assertIs(type(hall.deeds()), list)
        self.assertIs(type(hall.deeds()[0]), tuple)
        weights, pairs, rule = hall.world()
        self.assertEqual([type(part) for part in (hall.world(), weights, pairs, pairs[0], rule)], [tuple] * 5)

    def test_what_is_told_may_be_changed(self):
        hall = hall_of((9, 2), [(0, 1)])
        hall.meet(0, 1)
        before = told(hall)
        hall.weights()[0] = 30
        hall.weights().clear()
        hall.pairs().append((0, 5))
        hall.pairs().clear()
        hall.deeds().pop()
        hall.deeds().insert(0, ("back",))
        self.assertEqual(told(hall), before)
        self.assertEqual(hall.back(), (0, 1, 3))

    def test_what_was_told_stays(self):
        hall = hall_of((9, 2), [(0, 1)])
        weights, pairs, deeds, world = hall.weights(), hall.pairs(), hall.deeds(), hall.world()
        hall.meet(0, 1)
        hall.cut(0, 1)
        self.assertEqual(weights, {0: 9, 1: 2})
        self.assertEqual(pairs, [(0, 1)])
        self.assertEqual(deeds, [("come", 9), ("come", 2), ("link", 0, 1)])
        self.assertEqual(world, ((9, 2), ((0, 1),), HALF))

    def test_two_halls_are_apart(self):
        one, other = hall_of((9, 2), [(0, 1)]), hall_of((5,), (), ("even",))
        one.meet(0, 1)
        self.refused(other, BadCount, other.back)
        self.assertEqual(other.come(6), 1)
        self.assertEqual(one.weights(), {0: 6, 1: 5})
        self.assertEqual(told(other), ({0: 5, 1: 6}, [], True, ((5, 6), (), ("even",)), [("come", 5), ("come", 6)]))
        self.assertEqual(one.back(), (0, 1, 3))


class Again(Asking):
    DEEDS = [
        ("come", 9), ("come", 2), ("come", 7), ("link", 1, 0), ("meet", 0, 1), ("leave", 2), ("come", 20),
        ("link", 3, 1), ("meet", 1, 3), ("meet", 3, 1), ("back",), ("cut", 0, 1),
    ]

    def test_no_deeds(self):
        self.assertEqual(told(again(("some", 3), [])), told(Hall(("some", 3))))
        self.assertEqual(told(again(("some", 3), ())), told(Hall(("some", 3))))

    def test_of_a_list_and_of_a_tuple(self):
        for deeds in (list(self.DEEDS), tuple(self.DEEDS)):
            hall = again(HALF, deeds)
            self.assertIsInstance(hall, Hall)
            self.assertEqual(hall.deeds(), self.DEEDS)
            self.assertEqual(hall.weights(), {0: 6, 1: 12, 3: 13})
            self.assertEqual(hall.pairs(), [(1, 3)])
            self.assertEqual(hall.world(), ((6, 12, 13), ((1, 2),), HALF))

    def test_it_goes_on_the_same(self):
        hall = hall_of((9, 2, 7, 4), [(0, 1), (2, 1)])
        hall.leave(3)
        hall.meet(0, 1)
        hall.meet(1, 2)
        hall.meet(1, 2)
        hall.back()
        for number in range(len(hall.deeds())):
            part = again(HALF, hall.deeds()[:number])
            self.assertEqual(part.deeds(), hall.deeds()[:number])
        other = again(HALF, hall.deeds())
        self.assertEqual(told(other), told(hall))
        for call in (
            lambda each: each.back(), lambda each: each.back(), lambda each: each.come(30),
            lambda each: each.link(4, 0), lambda each: each.meet(0, 4), lambda each: each.leave(1),
        ):
            self.assertEqual(call(other), call(hall))
            self.assertEqual(told(other), told(hall))
        self.refused(other, BadCount, other.back)
        self.assertEqual(again(HALF, other.deeds()).come(1), 5)

    def test_halls_done_again_are_apart(self):
        hall = hall_of((9, 2), [(0, 1)])
        other = again(HALF, hall.deeds())
        other.meet(0, 1)
        other.come(3)
        self.assertEqual(hall.deeds(), [("come", 9), ("come", 2), ("link", 0, 1)])
        self.assertEqual(hall.weights(), {0: 9, 1: 2})

    def test_what_is_handed_in_stays(self):
        deeds = list(self.DEEDS)
        hall = again(HALF, deeds)
        hall.come(3)
        hall.deeds().clear()
        self.assertEqual(deeds, self.DEEDS)
        deeds.clear()
        self.assertEqual(hall.deeds(), self.DEEDS + [("come", 3)])

    def check(self, deeds, number):
        with self.subTest(deeds):
            for handed in (list(deeds), tuple(deeds)):
                self.assertEqual(refusal(BadDeed, again, HALF, handed).number, number)
                self.assertEqual(list(handed), list(deeds))

    def test_a_word_that_is_none(self):
        for deed in [
            ("go",), ("go", 1), ("",), ("Come", 3), ("come ", 3), ("weights",), ("pairs",), ("still",), ("world",),
            ("deeds",), ("_check_in", 0), ("again",), ("__init__", HALF), (),
        ]:
            self.check([deed], 0)
            self.check([("come", 3), ("come", 4), deed, ("link", 5, 5)], 2)

    def test_how_many_are_handed_in(self):
        for deed in [
            ("come",), ("come", 3, 4), ("leave",), ("leave", 0, 1), ("link",), ("link", 0), ("link", 0, 2, 1), ("cut",),
            ("cut", 0), ("cut", 0, 1, 2), ("meet",), ("meet", 0), ("meet", 0, 1, 1), ("back", 0), ("back", 0, 1),
        ]:
            self.check([("come", 9), ("come", 2), ("come", 1), ("link", 0, 1), ("meet", 0, 1), deed], 5)

    def test_what_is_refused(self):
        for deed in [
            ("come", 31), ("come", -1), ("leave", 2), ("leave", -1), ("link", 0, 1), ("link", 0, 0), ("link", 0, 2),
            ("cut", 1, 1), ("cut", 2, 1), ("meet", 0, 0), ("meet", 0, 3), ("back",),
        ]:
            self.check([("come", 9), ("come", 2), ("link", 0, 1), deed, ("go",)], 3)
        self.check([("come", 1)] * 21, 20)
        self.check([("back",)], 0)
        self.check([("come", 9), ("come", 2), ("meet", 0, 1)], 2)
        self.check([("come", 9), ("come", 2), ("link", 0, 1), ("meet", 0, 1), ("come", 1), ("back",)], 5)

    def test_the_first(self):
        self.check([("come", 1), ("come", 31), ("go",)], 1)
        self.check([("come", 1), ("go",), ("come", 31)], 1)


class Rules(unittest.TestCase):
    def test_all_rules(self):
        for rule in ALL_RULES:
            self.assertEqual(Hall(rule).world(), ((), (), rule))
            self.assertEqual(again(rule, [("come", 3)]).world(), ((3,), (), rule))

    def test_no_rules(self):
        for rule in NO_RULES:
            with self.subTest(rule):
                refused = refusal(BadWorld, Hall, rule)
                self.assertEqual((refused.part, refused.number), (2, 0))
                for deeds in ([], [("go",)], [("come", 31)], [("come", 3)]):
                    refused = refusal(BadWorld, again, rule, deeds)
                    self.assertEqual((refused.part, refused.number), (2, 0))


class Long(unittest.TestCase):
    """A hall held against snapshots, through many deeds that are the same ones each time."""

    def test_many_deeds(self):
        for start, rule in enumerate(ALL_RULES):
            self.go_on(start, rule)

    def go_on(self, start, rule):
        chance = start * 977 + 5
        hall = Hall(rule)
        weights, pairs, before, deeds, came = {}, set(), [], [], 0
        for _ in range(150):
            chance = (chance * 1103515245 + 12345) & 0x7FFFFFFF
            one, other = chance >> 8 & 7, chance >> 13 & 7
            pair = (min(one, other), max(one, other))
            word = ("come", "leave", "link", "link", "link", "cut", "meet", "meet", "meet", "meet", "back")[chance % 11]
            both = one in weights and other in weights
            if word == "come" and came < 8:
                self.assertEqual(hall.come(chance >> 20 & 15), came)
                weights[came] = chance >> 20 & 15
                came, before = came + 1, []
                deeds.append(("come", chance >> 20 & 15))
            elif word == "leave" and one in weights and len(weights) > 4:
                self.assertEqual(hall.leave(one), weights.pop(one))
                pairs, before = {known for known in pairs if one not in known}, []
                deeds.append(("leave", one))
            elif word == "link" and both and one != other and pair not in pairs:
                self.assertIsNone(hall.link(one, other))
                pairs.add(pair)
                deeds.append(("link", one, other))
            elif word == "cut" and pair in pairs:
                self.assertIsNone(hall.cut(one, other))
                pairs.remove(pair)
                deeds.append(("cut", one, other))
            elif word == "meet" and pair in pairs:
                present = gift((None, (pair,), rule), weights, 0)
                before.append((dict(weights), present))
                self.assertEqual(hall.meet(one, other), present)
                if present:
                    weights[present[0]] -= present[2]
                    weights[present[1]] += present[2]
                deeds.append(("meet", one, other))
            elif word == "back" and before:
                weights, present = before.pop()
                self.assertEqual(hall.back(), present)
                deeds.append(("back",))
            self.check(hall, weights, pairs, rule, deeds)
        self.assertEqual(told(again(rule, deeds)), told(hall))

    def check(self, hall, weights, pairs, rule, deeds):
        things = sorted(weights)
        numbered = tuple(sorted((things.index(one), things.index(other)) for one, other in pairs))
        moving = [pair for pair in pairs if gift((None, (pair,), rule), weights, 0)]
        self.assertEqual(told(hall), (
            weights, sorted(pairs), not moving, (tuple(weights[thing] for thing in things), numbered, rule), deeds,
        ))


if __name__ == "__main__":
    unittest.main()
