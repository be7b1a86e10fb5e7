"""Texts: [13], and [1] and [2] as far as they speak of these."""

import unittest
from itertools import combinations

from heavierhall.errors import BadText, BadWorld
from heavierhall.notes import read, written
from tests.helpers import (
    ALL_RULES, BAD_WORLDS, COMES_TO_MORE, LATE_ROUND, NO_PAIRS, NO_RULES, ONE_END, STILL, SWAP, THREE_ENDS,
    many_worlds, refusal,
)

PLAIN = "weights 3 0 12\npairs 0-1 1-2\nrule part 1 2"


def text_of(weights="weights 3 0 12", pairs="pairs 0-1 1-2", rule="rule part 1 2"):
    return f"{weights}\n{pairs}\n{rule}"


class Written(unittest.TestCase):
    def test_by_hand(self):
        self.assertEqual(written(((3, 0, 12), ((0, 1), (1, 2)), ("part", 1, 2))), PLAIN)
        self.assertEqual(written(SWAP), "weights 1 0\npairs 0-1\nrule even")
        self.assertEqual(written(THREE_ENDS), "weights 4 0 0\npairs 0-1 0-2 1-2\nrule half")
        self.assertEqual(written(STILL), "weights 3 3 3\npairs 0-1 1-2\nrule some 4")

    def test_without_pairs(self):
        self.assertEqual(written(NO_PAIRS), "weights 5 1 0\npairs\nrule even")
        self.assertEqual(written(((30, 0), (), ("some", 9))), "weights 30 0\npairs\nrule some 9")

    def test_in_turn(self):
        self.assertEqual(
            written(((0, 10, 9, 30), ((2, 3), (0, 3), (0, 1)), ("half",))),
            "weights 0 10 9 30\npairs 2-3 0-3 0-1\nrule half",
        )

    def test_each_rule(self):
        for rule in ALL_RULES:
            words = " ".join(map(str, rule))
            for pairs, row in [((), "pairs"), (((0, 1),), "pairs 0-1")]:
                world = ((4, 11), pairs, rule)
                self.assertEqual(written(world), f"weights 4 11\n{row}\nrule {words}")
                self.assertEqual(read(written(world)), world)

    def test_no_worlds(self):
        for world, part, number in BAD_WORLDS:
            refused = refusal(BadWorld, written, world)
            self.assertEqual((refused.part, refused.number), (part, number))
        for rule in NO_RULES:
            refused = refusal(BadWorld, written, ((1, 2), ((0, 1),), rule))
            self.assertEqual((refused.part, refused.number), (2, 0))


class Read(unittest.TestCase):
    def test_by_hand(self):
        self.assertEqual(read(PLAIN), ((3, 0, 12), ((0, 1), (1, 2)), ("part", 1, 2)))
        self.assertEqual(read("weights 5 1 0\npairs\nrule even"), NO_PAIRS)

    def test_what_is_written_is_read_to_the_same(self):
        largest = (tuple(range(25, 31)), tuple(combinations(range(6), 2))[::-1], ("part", 9, 9))
        for world in many_worlds() + [LATE_ROUND, ONE_END, COMES_TO_MORE, largest]:
            self.assertEqual(read(written(world)), world)

    def test_kinds(self):
        world = read(PLAIN)
        weights, pairs, rule = world
        self.assertEqual([type(part) for part in (world, weights, pairs, pairs[0], rule)], [tuple] * 5)
        self.assertEqual([type(word) for word in weights + pairs[0] + rule], [int] * 3 + [int] * 2 + [str, int, int])
        weights, pairs, rule = read("weights 5 1\npairs\nrule half")
        self.assertEqual((type(pairs), type(rule)), (tuple, tuple))


class Rows(unittest.TestCase):
    def check(self, text, row):
        with self.subTest(text):
            self.assertEqual(refusal(BadText, read, text).row, row)

    def test_the_first_word(self):
        for first in ("weight", "Weights", "", "pairs", "weights:", "\tweights", "weights\t", " weights", "weights3"):
            self.check(text_of(weights=first + " 3 0 12"), 0)
        for first in ("pair", "Pairs", "", "rule", " pairs", "pairs0-1"):
            self.check(text_of(pairs=first + " 0-1 1-2"), 1)
        for first in ("rules", "Rule", "", "pairs", " rule", "rulepart"):
            self.check(text_of(rule=first + " part 1 2"), 2)

    def test_an_empty_text(self):
        self.check("", 0)
        self.check(" ", 0)
        self.check("\n", 0)
        self.check("\n\n", 0)
        self.check("\n" + PLAIN, 0)

    def test_a_row_that_lacks(self):
        self.check("weights 3 0 12", 1)
        self.check("weights 3 0 12\n", 1)
        self.check("weights 3 0 12\npairs 0-1", 2)
        self.check("weights 3 0 12\npairs 0-1\n", 2)
        self.check("weights", 1)
        self.check("weights\npairs", 2)
        self.check("pairs 0-1\nrule half", 0)
        self.check("weights 3 0\nrule half", 1)

    def test_a_fourth_row(self):
        self.check(PLAIN + "\n", 3)
        self.check(PLAIN + "\n\n", 3)
        self.check(PLAIN + "\nrule half", 3)
        self.check(PLAIN + "\nmore\nand more", 3)
        self.check(text_of(rule="rule some x") + "\n", 2)
        self.check(text_of(weights="weights 3 x") + "\n", 0)

    def test_blanks(self):
        self.check(text_of(weights="weights  3 0 12"), 0)
        self.check(text_of(weights="weights 3  0 12"), 0)
        self.check(text_of(weights="weights 3 0 12 "), 0)
        self.check(text_of(weights="weights "), 0)
        self.check(text_of(weights="weights\t3 0 12"), 0)
        self.check(text_of(weights="weights 3\t0 12"), 0)
        self.check(text_of(pairs="pairs  0-1"), 1)
        self.check(text_of(pairs="pairs 0-1  1-2"), 1)
        self.check(text_of(pairs="pairs 0-1 "), 1)
        self.check(text_of(pairs="pairs "), 1)
        self.check(text_of(pairs="pairs 0 -1"), 1)
        self.check(text_of(rule="rule part  1 2"), 2)
        self.check(text_of(rule="rule part 1 2 "), 2)
        self.check(text_of(rule="rule half "), 2)
        self.check(text_of(rule="rule  part 1 2"), 2)
        self.check(text_of(rule="rule part 1\t2"), 2)

    def test_other_line_ends(self):
        self.check(PLAIN.replace("\n", "\r\n"), 0)
        self.check(PLAIN.replace("\n", "\r"), 0)
        self.check(PLAIN.replace("\n", "\x0b"), 0)
        self.check(PLAIN.replace("\n", "\u2028"), 0)
        self.check(text_of(pairs="pairs 0-1\r"), 1)
        self.check(text_of(rule="rule part 1 2\r"), 2)

    def test_numbers(self):
        for word in (
            "100", "123", "000", "012", "00", "01", "07", "+3", "-3", "-0", "3.", "3,", "x", "1x", "x1", "1_0", "0x1",
            "", "0-1", "\u0663", "\u00b2", "1\u0663", "\uff13", "3\t", "\r3", "three",
        ):
            self.check(text_of(weights=f"weights 3 {word} 12"), 0)
            self.check(text_of(weights=f"weights {word} 3"), 0)
            self.check(text_of(weights=f"weights 3 {word}"), 0)
            self.check(text_of(rule=f"rule part {word} 2"), 2)
            self.check(text_of(rule=f"rule part 1 {word}"), 2)
            self.check(text_of(rule=f"rule some {word}"), 2)
            self.check(text_of(rule=f"rule other 1 2 3 {word}"), 2)
            if "-" not in word:
                self.check(text_of(pairs=f"pairs 0-1 {word}-2"), 1)
                self.check(text_of(pairs=f"pairs 0-{word}"), 1)

    def test_pairs(self):
        for word in (
            "0", "01", "0-", "-1", "-", "--", "0--1", "0-1-2", "-0-1", "0-1-", "0:1", "0,1", "0-x", "x-1", "00-1",
            "0-01", "0-100", "100-0", "+0-1", "0-+1", "0\u20131", "(0-1)", "",
        ):
            self.check(text_of(pairs=f"pairs {word}"), 1)
            self.check(text_of(pairs=f"pairs 0-1 {word}"), 1)
            self.check(text_of(pairs=f"pairs {word} 0-1"), 1)

    def test_a_rule_without_a_first_word(self):
        self.check(text_of(rule="rule"), 2)

    def test_the_first_row_that_is_not_so(self):
        self.check("weights x\npairs x\nrule", 0)
        self.check("weights 1\npairs x\nrule", 1)
        self.check("weights 1\npairs\nrule", 2)
        self.check("weights x", 0)
        self.check("weights 1\nrule half", 1)


class Worlds(unittest.TestCase):
    def check(self, text, part, number):
        with self.subTest(text):
            refused = refusal(BadWorld, read, text)
            self.assertEqual((refused.part, refused.number), (part, number))

    def test_weights(self):
        self.check(text_of(weights="weights"), 0, 0)
        self.check(text_of(weights="weights 5"), 0, 1)
        self.check(text_of(weights="weights 5 31"), 0, 1)
        self.check(text_of(weights="weights 99 0"), 0, 0)
        self.check(text_of(weights="weights 1 2 3 4 5 6 7"), 0, 6)
        self.check(text_of(weights="weights" + " 1" * 100), 0, 6)

    def test_pairs(self):
        self.check(text_of(pairs="pairs 1-0"), 1, 0)
        self.check(text_of(pairs="pairs 0-1 1-1"), 1, 1)
        self.check(text_of(pairs="pairs 0-1 0-3"), 1, 1)
        self.check(text_of(pairs="pairs 0-1 1-2 0-1"), 1, 2)
        self.check(text_of(pairs="pairs 10-99"), 1, 0)
        self.check(text_of(pairs="pairs 0-1 0-2 1-2" + " 0-1" * 20), 1, 3)
        pairs = " ".join(f"{one}-{other}" for one, other in combinations(range(6), 2))
        self.check(text_of(weights="weights 1 2 3 4 5 6", pairs=f"pairs {pairs} 0-1"), 1, 15)

    def test_rules(self):
        for rule in (
            "half 1", "even 0", "some", "some 0", "some 10", "some 99", "some 1 2", "part", "part 1", "part 2 1",
            "part 0 1", "part 1 10", "part 1 2 3", "other", "Half", "half\r", "1", "12 3", "rule", "rule 3", "-",
            "-1", "007", "pairs", "some\t3", "\u00e9", "half,", "\t", "", " 1", " 1 2", " 99",
        ):
            self.check(text_of(rule=f"rule {rule}"), 2, 0)

    def test_the_first_part(self):
        self.check("weights 5\npairs 1-0\nrule most", 0, 1)
        self.check("weights 5 1\npairs 1-0\nrule most", 1, 0)
        self.check("weights 5 1\npairs 0-1\nrule most", 2, 0)

    def test_behind_texts(self):
        for text, row in [
            ("weights 5\npairs x\nrule half", 1), ("weights 5 31\npairs\nrule some x", 2), ("weights 99", 1),
            ("weights 5 31\npairs\nrule half\n", 3), ("weights\npairs\nrule most\n\n", 3),
            ("weights 5 1\npairs 1-0\nrule ", None), ("weights 5 1\npairs 1-0\nrule", 2),
        ]:
            if row is None:
                self.check(text, 1, 0)
            else:
                self.assertEqual(refusal(BadText, read, text).row, row, text)


if __name__ == "__main__":
    unittest.main()
