"""Grammars as texts, and their bounds."""

from surelyread.errors import TooLarge
from surelyread.pixels import too_wide_or_high
from surelyread.signs import split
from surelyread.strips import WIDEST, is_strip, list_places, machine
from surelyread.syntax import Parser

MOST_CHARACTERS = 4000
MOST_BRACKETS = 30
MOST_PARTS = 12
MOST_STRIPS = 4
MOST_COST = 1000
MOST_PLACES = 12
MOST_STATES = 8
MOST_MOVES = 40


def parse_grammar(text):
    """The parts of the text of a grammar."""
    if len(text) > MOST_CHARACTERS:
        raise TooLarge("text")
    signs = split(text)
    # Ahead of the rules, so that the parser never goes deeper than the brackets may.
    check_brackets(signs)
    parts = Parser(signs).read_grammar()
    check_parts(parts)
    return parts


def check_brackets(signs):
    """Refuses too many brackets that are open at a time."""
    count = 0
    for sign in signs:
        if sign[0] == "symbol" and sign[1] == "(":
            count += 1
        if sign[0] == "symbol" and sign[1] == ")" and count > 0:
            count -= 1
        if count > MOST_BRACKETS:
            raise TooLarge("brackets")


def check_parts(parts):
    """Refuses parts that are too many or too large."""
    if len(parts) > MOST_PARTS:
        raise TooLarge("parts")
    if len([part for part in parts if is_strip(part)]) > MOST_STRIPS:
        raise TooLarge("strips")
    for part in parts:
        if is_strip(part):
            check_strip(part[3])
        else:
            check_leaf(part)


def check_leaf(part):
    """Refuses a plain part or a shape that is too dear or too large."""
    if part[3] > MOST_COST:
        raise TooLarge("cost")
    if part[0] == "shape" and too_wide_or_high(part[4]):
        raise TooLarge("pattern")


def check_strip(choice):
    """Refuses a strip whose places are too dear, too large or too many, or its machine."""
    places = list_places(choice)
    if max([place[4] for place in places]) > MOST_COST:
        raise TooLarge("cost")
    if max([place[3] for place in places]) > WIDEST:
        raise TooLarge("size")
    if len(places) > MOST_PLACES:
        raise TooLarge("places")
    ends, moves = machine(choice)
    if len(ends) > MOST_STATES:
        raise TooLarge("states")
    if len(moves) > MOST_MOVES:
        raise TooLarge("moves")
