"""Wishes: what may hold at the places of a game, and the game that tells where it holds."""

from crownwalk.errors import Loose, TooMany
from crownwalk.games import MOST
from crownwalk.solving import solved

ENDS = ("is", "not")
NAMERS = ("least", "most")
STEPPERS = ("all", "some")
OF_HAND_ONE = ("and", "all")


def signs(wish):
    """How many tuples the wish is, counted with those within it."""
    return 1 + sum([signs(part) for part in parts_of(wish)])


def parts_of(wish):
    """The wishes straight within a wish, in their order."""
    # Crowns are numbers and names are texts, so what is a tuple is a part.
    return [part for part in wish[1:] if isinstance(part, tuple)]


def holds(game, wish):
    """A list of True or False for each place: whether the wish holds there."""
    rows = rows_of(wish, 0, {})
    hands = solved(game_of(game, rows))
    return [hands[place * len(rows)] == 0 for place in range(len(game))]


def wish_game(game, wish):
    """The game of the wish over the game."""
    rows = rows_of(wish, 0, {})
    if len(game) * len(rows) > MOST:
        raise TooMany(f"the game of the wish would have more than {MOST} places")
    return game_of(game, rows)


def rows_of(wish, number, homes):
    """A list with a tuple (sign, heads) for each sign of a wish that is itself the sign of the number.

    The heads are the numbers of the signs to which a sign leads. Homes is a dict that has, for each name that stands
    round the wish, the number of its nearest least or most.
    """
    if wish[0] in ENDS:
        return [(wish, [number])]
    if wish[0] == "name":
        return [(wish, [home_of(wish[1], homes)])]
    inner = dict(homes)
    if wish[0] in NAMERS:
        inner[wish[1]] = number
    heads = []
    within = []
    for part in parts_of(wish):
        heads.append(number + 1 + len(within))
        within.extend(rows_of(part, number + 1 + len(within), inner))
    return [(wish, heads)] + within


def home_of(name, homes):
    """The number of the least or most that a name means."""
    if name not in homes:
        raise Loose(f"the name {name} has no least or most round it")
    return homes[name]


def game_of(game, rows):
    """The game of a wish with these rows, however many places it has."""
    places = []
    for place in range(len(game)):
        for sign, heads in rows:
            hand = 1 if sign[0] in OF_HAND_ONE else 0
            places.append((hand, crown_of(game, place, sign), ways_of(game, place, sign, heads, len(rows))))
    return tuple(places)


def ways_of(game, place, sign, heads, many):
    """The ways of the sign at the place, in the game of a wish with so many signs."""
    if sign[0] in STEPPERS:
        return tuple([way * many + heads[0] for way in game[place][2]])
    return tuple([place * many + head for head in heads])


def crown_of(game, place, sign):
    """The crown of the sign at the place."""
    if sign[0] == "is":
        return 0 if game[place][1] == sign[1] else 1
    if sign[0] == "not":
        return 1 if game[place][1] == sign[1] else 0
    if sign[0] == "least":
        return 2 * namers_in(sign[2]) + 1
    if sign[0] == "most":
        return 2 * namers_in(sign[2])
    return 0


def namers_in(wish):
    """How many least and most tuples the wish is, counted with those within it."""
    own = 1 if wish[0] in NAMERS else 0
    return own + sum([namers_in(part) for part in parts_of(wish)])
