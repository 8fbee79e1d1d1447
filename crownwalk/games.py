"""Games: tuples of places (hand, crown, ways), made, turned and folded."""

from crownwalk.errors import NoPlace, Stuck, TooMany, Twice

MOST = 24


def made(rows):
    """The game of a list of tuples (hand, crown, ways), ways a list in any order."""
    if not 1 <= len(rows) <= MOST:
        raise TooMany(f"a game has 1 to {MOST} places")
    for row in rows:
        check_ways(row[2], len(rows))
    return tuple([(hand, crown, tuple(sorted(ways))) for hand, crown, ways in rows])


def check_ways(ways, size):
    """Refuse ways that no place of a game with so many places can have."""
    if len(ways) == 0:
        raise Stuck("a place has no way")
    for way in ways:
        if not 0 <= way < size:
            raise NoPlace(f"the way {way} is no place")
    if len(set(ways)) < len(ways):
        raise Twice("a way stands twice at one place")


def turned(game):
    """The game with the hands exchanged and each crown one greater."""
    return tuple([(1 - hand, crown + 1, ways) for hand, crown, ways in game])


def classes(game):
    """A list with the number of each place's class of alike places."""
    numbers = numbered([(hand, crown) for hand, crown, ways in game])
    finer = parted_by_ways(game, numbers)
    # The old number is part of each new mark, so a round can only part further: when it parts nothing, none will.
    while finer != numbers:
        numbers = finer
        finer = parted_by_ways(game, numbers)
    return numbers


def parted_by_ways(game, numbers):
    """The class numbers after one more parting, by the classes to which the places have ways."""
    return numbered([(numbers[place], class_ways(game, place, numbers)) for place in range(len(game))])


def class_ways(game, place, numbers):
    """The classes to which a place has ways, each once, rising."""
    return tuple(sorted(set([numbers[way] for way in game[place][2]])))


def numbered(marks):
    """A number for each mark, like for like, from 0 in the order in which they first come."""
    known = {}
    for mark in marks:
        if mark not in known:
            known[mark] = len(known)
    return [known[mark] for mark in marks]


def folded(game):
    """The game with one place for each class of alike places."""
    numbers = classes(game)
    places = []
    for place, number in enumerate(numbers):
        # Classes are numbered by their first places, so a class that isn't there yet has the next number.
        if number == len(places):
            places.append((game[place][0], game[place][1], class_ways(game, place, numbers)))
    return tuple(places)
