"""Texts: a world written as three rows, and read from them."""

from heavierhall.errors import BadText
from heavierhall.worlds import check_world

WEIGHTS_ROW = 0
PAIRS_ROW = 1
RULE_ROW = 2
ROWS = 3


def written(world):
    """The world as a text."""
    check_world(world)
    weights, pairs, rule = world
    rows = [
        ["weights"] + [str(weight) for weight in weights],
        ["pairs"] + [f"{one}-{other}" for one, other in pairs],
        ["rule"] + [str(word) for word in rule],
    ]
    return "\n".join([" ".join(words) for words in rows])


def read(text):
    """The world of a text."""
    rows = text.split("\n")
    weights = read_numbers(words_behind("weights", rows, WEIGHTS_ROW), WEIGHTS_ROW)
    pairs = tuple([read_pair(word) for word in words_behind("pairs", rows, PAIRS_ROW)])
    rule = read_rule(words_behind("rule", rows, RULE_ROW))
    if len(rows) > ROWS:
        raise BadText(row=ROWS)
    world = (weights, pairs, rule)
    check_world(world)
    return world


def words_behind(name, rows, at):
    """The words of a row behind its name."""
    if at >= len(rows):
        raise BadText(row=at)
    words = rows[at].split(" ")
    if words[0] != name:
        raise BadText(row=at)
    return words[1:]


def read_pair(word):
    """The two numbers of a word like 0-1."""
    parts = word.split("-")
    if len(parts) != 2:
        raise BadText(row=PAIRS_ROW)
    return read_numbers(parts, PAIRS_ROW)


def read_rule(words):
    """A rule of any first word, and of numbers; whether there is such a rule isn't asked here."""
    if not words:
        raise BadText(row=RULE_ROW)
    return (words[0],) + read_numbers(words[1:], RULE_ROW)


def read_numbers(words, row):
    """The numbers of these words, which stand in this row."""
    for word in words:
        if not is_number(word):
            raise BadText(row=row)
    return tuple([int(word) for word in words])


def is_number(word):
    """Whether a word is a number of one or two figures, none needless."""
    # isdigit alone takes figures of other scripts, too.
    if not word.isascii() or not word.isdigit():
        return False
    return len(word) == 1 or (len(word) == 2 and word[0] != "0")
