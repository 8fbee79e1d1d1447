"""Games written as texts, such as `0 3: 0 1; 1 2: 0`."""

from crownwalk.errors import NoNote
from crownwalk.games import made

FIGURES = "0123456789"
LONGEST = 30


def shown(game):
    """The text of a game."""
    return "; ".join([place_text(hand, crown, ways) for hand, crown, ways in game])


def place_text(hand, crown, ways):
    """The text of one place."""
    return f"{hand} {crown}:" + "".join([f" {way}" for way in ways])


def read(text):
    """The game that a text tells."""
    # The whole text is read before a game is made of it: NoNote goes ahead of every other refusal.
    return made([row_of(piece) for piece in text.split("; ")])


def row_of(piece):
    """The tuple (hand, crown, ways) that the text of one place tells."""
    halves = piece.split(":")
    if len(halves) != 2:
        raise NoNote("a place has just one colon")
    head = halves[0].split(" ")
    tail = halves[1].split(" ")
    if len(head) != 2:
        raise NoNote("ahead of the colon stand a hand, a blank and a crown")
    if tail[0] != "" or len(tail) < 2:
        raise NoNote("behind the colon stand a blank and a way, once or more")
    hand = number_of(head[0])
    if hand > 1:
        raise NoNote("a hand is 0 or 1")
    return (hand, number_of(head[1]), [number_of(word) for word in tail[1:]])


def number_of(word):
    """The number that a word writes by figures."""
    # Asked sign by sign: isdigit and int take signs for figures that are none here.
    if not all([sign in FIGURES for sign in word]):
        raise NoNote("a number is written by figures alone")
    if not 1 <= len(word) <= LONGEST:
        raise NoNote(f"a number has 1 to {LONGEST} figures")
    if word[0] == "0" and word != "0":
        raise NoNote("a number has no nought ahead")
    return int(word)
