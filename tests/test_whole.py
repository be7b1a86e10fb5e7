"""The whole program: [1], held against each function and method of the interface."""

import unittest
from copy import deepcopy

from heavierhall.duels import chosen, forced, plan, wins
from heavierhall.endings import heights, longest, only_end, round_of, shows
from heavierhall.errors import BadDeed, BadMeeting, BadPaper
from heavierhall.halls import Hall, again
from heavierhall.notes import read, written
from heavierhall.reaching import bars, ends, reached, way
from heavierhall.turns import after, period, rests
from heavierhall.worlds import gifts, met
from tests.helpers import LATE_ROUND, THREE_ENDS, refusal

WEIGHTS = [(1, 1, 2), (1, 2, 1), (2, 0, 2), (2, 1, 1), (2, 2, 0), (4, 0, 0)]
HEIGHTS = [(weights, number) for weights, number in zip(WEIGHTS, (0, 0, 1, 0, 1, 2))]
PLAN = [((4, 0, 0), 3, 0), ((2, 2, 0), 1, 1)]
DEEDS = [("come", 9), ("come", 2), ("link", 0, 1), ("meet", 0, 1)]

# Each function with what is handed in.
ASKED = [
    (met, [THREE_ENDS, [0, 1, 2]]),
    (gifts, [THREE_ENDS, [0, 1, 2]]),
    (reached, [THREE_ENDS]),
    (ends, [THREE_ENDS]),
    (way, [THREE_ENDS, ((0, 1, 1),)]),
    (bars, [THREE_ENDS, WEIGHTS, ((0, 3, 3),)]),
    (round_of, [LATE_ROUND]),
    (heights, [THREE_ENDS]),
    (longest, [THREE_ENDS]),
    (only_end, [THREE_ENDS]),
    (shows, [THREE_ENDS, HEIGHTS]),
    (period, [LATE_ROUND, (0, 0, 0)]),
    (after, [LATE_ROUND, (0, 0, 0), 50]),
    (rests, [THREE_ENDS, (0, 1)]),
    (forced, [THREE_ENDS, ((2, 1, 1),)]),
    (chosen, [THREE_ENDS, ((2, 1, 1),)]),
    (plan, [THREE_ENDS, ((2, 1, 1),)]),
    (wins, [THREE_ENDS, ((2, 1, 1),), PLAN]),
    (written, [THREE_ENDS]),
    (read, ["weights 4 0 0\npairs 0-1 0-2 1-2\nrule half"]),
    (lambda deeds: again(("half",), deeds).deeds(), [DEEDS]),
    (lambda deeds: again(("half",), deeds).weights(), [DEEDS]),
    (lambda deeds: again(("half",), deeds).pairs(), [DEEDS]),
    (lambda deeds: again(("half",), deeds).world(), [DEEDS]),
]


def spoil(told):
    """Changes all that can be changed of what was told."""
    if isinstance(told, (list, tuple)):
        for part in told:
            spoil(part)
    if isinstance(told, (list, dict)):
        told.clear()


class Whole(unittest.TestCase):
    def test_what_is_handed_in_stays(self):
        for call, handed in ASKED:
            kept = deepcopy(handed)
            call(*handed)
            self.assertEqual(handed, kept, call)

    def test_what_is_told_may_be_changed(self):
        for call, handed in ASKED:
            told = call(*handed)
            kept = deepcopy(told)
            spoil(told)
            self.assertEqual(call(*handed), kept, call)

    def test_what_is_refused_changes_nothing_that_is_handed_in(self):
        for error, call, handed in [
            (BadMeeting, met, [THREE_ENDS, [0, 1, 3]]),
            (BadMeeting, gifts, [THREE_ENDS, [0, 1, 3]]),
            (BadPaper, bars, [THREE_ENDS, WEIGHTS + [(4, 0)], ()]),
            (BadPaper, shows, [THREE_ENDS, HEIGHTS + [((4, 0), 0)]]),
            (BadPaper, wins, [THREE_ENDS, (), PLAN + [((4, 0), 0, None)]]),
            (BadDeed, again, [("half",), DEEDS + [("leave", 2)]]),
        ]:
            kept = deepcopy(handed)
            refusal(error, call, *handed)
            self.assertEqual(handed, kept)

    def test_a_hall_keeps_copies(self):
        deeds = list(DEEDS)
        hall = again(("half",), deeds)
        spoil(deeds)
        spoil([hall.weights(), hall.pairs(), hall.deeds()])
        self.assertEqual(hall.deeds(), DEEDS)
        self.assertEqual(hall.world(), ((6, 5), ((0, 1),), ("half",)))
        self.assertEqual(hall.back(), (0, 1, 3))

    def test_a_halls_worlds_can_be_asked(self):
        hall = Hall(("half",))
        for weight in (30, 4, 0, 0):
            hall.come(weight)
        hall.leave(0)
        for one, other in ((1, 2), (3, 1), (2, 3)):
            hall.link(one, other)
        self.assertEqual(hall.world(), THREE_ENDS)
        self.assertEqual(read(written(hall.world())), THREE_ENDS)
        self.assertEqual(reached(hall.world()), WEIGHTS)


if __name__ == "__main__":
    unittest.main()
