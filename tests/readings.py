"""Literal readings of the document's points, and the games and plans over which the program is held to them."""

import functools
import itertools


def way_sets(size):
    """Every tuple of ways that a place can have."""
    return [ways for many in range(1, size + 1) for ways in itertools.combinations(range(size), many)]


def games_of(size, crowns):
    """Every game of so many places with these crowns."""
    places = [(hand, crown, ways) for hand in (0, 1) for crown in crowns for ways in way_sets(size)]
    return itertools.product(places, repeat=size)


def seeded_game(source, size, crowns, most_ways=3):
    """A game by a seeded source."""
    return tuple(
        (source.randint(0, 1), source.choice(crowns),
         tuple(sorted(source.sample(range(size), source.randint(1, min(size, most_ways))))))
        for _ in range(size)
    )


def choices(game, hand, place):
    """What a plan that keeps can have at a place."""
    return list(game[place][2]) if game[place][0] == hand else [None]


def plans_of(game, hand):
    """Every plan that holds places alone and steps by their ways alone, whether it keeps or not."""
    for held in itertools.product((False, True), repeat=len(game)):
        keys = [place for place in range(len(game)) if held[place]]
        for values in itertools.product(*(choices(game, hand, place) for place in keys)):
            yield dict(zip(keys, values))


def seeded_plan(source, game, hand):
    """A plan of most places by a seeded source; it may keep or not."""
    keys = [place for place in range(len(game)) if source.random() < 0.9]
    return {place: source.choice(choices(game, hand, place)) for place in keys}


def steps_from(game, hand, plan, place):
    """Where a walk that follows the plan can go from a held place."""
    return [plan[place]] if game[place][0] == hand else list(game[place][2])


def keeps_by_the_point(game, hand, plan):
    """Point [6]."""
    if not set(plan) <= set(range(len(game))):
        return False
    for place, value in plan.items():
        owner, _, ways = game[place]
        if owner == hand and not (value in set(ways) and value in plan):
            return False
        if owner != hand and not set(ways) <= set(plan):
            return False
    return True


def round_crowns(game, hand, plan, place):
    """The greatest crowns of all rounds from a place that follow the plan."""
    known = set()
    fresh = {(place, game[place][1])}
    while fresh:
        after = {(way, max(crown, game[way][1])) for spot, crown in fresh
                 for way in steps_from(game, hand, plan, spot)}
        fresh = after - known
        known |= fresh
    return {crown for spot, crown in known if spot == place}


def wins_by_the_point(game, hand, plan):
    """Point [7]."""
    if not keeps_by_the_point(game, hand, plan):
        return False
    return all(crown % 2 == hand for place in plan for crown in round_crowns(game, hand, plan, place))


def feared_by_the_point(game, hand):
    """Point [8], the feared crowns."""
    return sorted({crown for _, crown, _ in game if crown % 2 == 1 - hand})


def count_by_the_point(game, hand, plan, place, feared):
    """Point [8], one number of the paper: every walk from the place is followed to the first greater crown."""
    most = 0
    known = set()
    fresh = {(place, 0)}
    while fresh:
        known |= fresh
        after = set()
        for spot, count in fresh:
            if game[spot][1] > feared:
                continue
            count += game[spot][1] == feared
            assert count <= len(game)
            most = max(most, count)
            after |= {(way, count) for way in steps_from(game, hand, plan, spot)}
        fresh = after - known
    return most


def paper_by_the_point(game, hand, plan):
    """Point [8], the paper of a plan that wins."""
    crowns = feared_by_the_point(game, hand)
    return {place: [count_by_the_point(game, hand, plan, place, crown) for crown in crowns] for place in plan}


def shows_by_the_point(game, hand, plan, paper):
    """Point [9]."""
    if not keeps_by_the_point(game, hand, plan):
        return False
    for place in plan:
        for step in steps_from(game, hand, plan, place):
            for at, crown in enumerate(feared_by_the_point(game, hand)):
                if crown == game[place][1] and not paper[step][at] < paper[place][at]:
                    return False
                if crown > game[place][1] and not paper[step][at] <= paper[place][at]:
                    return False
    return True


def won_by_the_point(game, hand):
    """Point [10], by a look through all plans: the places that the hand wins."""
    won = set()
    for plan in plans_of(game, hand):
        if not set(plan) <= won and wins_by_the_point(game, hand, plan):
            won |= set(plan)
    return won


def parts_by_the_point(wish):
    """The tuples straight within a wish, by the forms of point [12]."""
    if wish[0] in ("is", "not", "name"):
        return []
    if wish[0] in ("least", "most"):
        return [wish[2]]
    if wish[0] in ("all", "some"):
        return [wish[1]]
    return [wish[1], wish[2]]


def is_loose(wish, names=()):
    """True where a name in the wish has no least or most of its own round it."""
    if wish[0] == "name":
        return wish[1] not in names
    if wish[0] in ("least", "most"):
        names = names + (wish[1],)
    return any(is_loose(part, names) for part in parts_by_the_point(wish))


def sets_of(size):
    """Every set of places."""
    return [frozenset(places) for many in range(size + 1) for places in itertools.combinations(range(size), many)]


def where_it_holds(game, wish, meant=None):
    """Point [12]: the set of places where a wish holds, where the names mean the sets that meant tells."""
    meant = meant or {}
    everywhere = frozenset(range(len(game)))
    kind = wish[0]
    if kind in ("is", "not"):
        there = frozenset(place for place in everywhere if game[place][1] == wish[1])
        return there if kind == "is" else everywhere - there
    if kind == "name":
        return meant[wish[1]]
    if kind in ("least", "most"):
        fixed = [told for told in sets_of(len(game)) if where_it_holds(game, wish[2], {**meant, wish[1]: told}) == told]
        best = min(fixed, key=len) if kind == "least" else max(fixed, key=len)
        assert all(best <= told if kind == "least" else best >= told for told in fixed)
        return best
    parts = [where_it_holds(game, part, meant) for part in parts_by_the_point(wish)]
    if kind == "and":
        return parts[0] & parts[1]
    if kind == "or":
        return parts[0] | parts[1]
    if kind == "all":
        return frozenset(place for place in everywhere if set(game[place][2]) <= parts[0])
    return frozenset(place for place in everywhere if set(game[place][2]) & parts[0])


def signs_by_the_point(wish, around=()):
    """Point [12]: a list of (sign, the numbers of those round it), a tuple ahead of those within it."""
    told = []

    def tell(sign, around):
        number = len(told)
        told.append((sign, around))
        for part in parts_by_the_point(sign):
            tell(part, around + (number,))

    tell(wish, around)
    return told


def wish_game_by_the_point(game, wish):
    """Point [13], however many places it has."""
    told = signs_by_the_point(wish)
    many = len(told)
    namers = [number for number, (sign, _) in enumerate(told) if sign[0] in ("least", "most")]
    places = []
    for place, (_, own, ways) in enumerate(game):
        for number, (sign, around) in enumerate(told):
            heads = [other for other in range(many) if told[other][1] == around + (number,)]
            within = len([other for other in namers if number in told[other][1]])
            hand, crown, spots = 0, 0, [place]
            if sign[0] in ("and", "all"):
                hand = 1
            if sign[0] in ("all", "some"):
                spots = ways
            if sign[0] == "least":
                crown = 2 * within + 1
            if sign[0] == "most":
                crown = 2 * within
            if sign[0] in ("is", "not"):
                heads = [number]
                crown = int((own == sign[1]) != (sign[0] == "is"))
            if sign[0] == "name":
                heads = [max(other for other in around if other in namers and told[other][0][1] == sign[1])]
            places.append((hand, crown, tuple(sorted(spot * many + head for spot in spots for head in heads))))
    return tuple(places)


@functools.lru_cache(None)
def wishes_of(size, crowns, names):
    """Every wish of so many signs with these crowns and names, the loose ones too."""
    if size == 1:
        ends = [(kind, crown) for kind in ("is", "not") for crown in crowns]
        return tuple(ends + [("name", name) for name in names])
    wishes = []
    for part in wishes_of(size - 1, crowns, names):
        wishes += [("all", part), ("some", part)]
        wishes += [(kind, name, part) for kind in ("least", "most") for name in names]
    for first in range(1, size - 1):
        pairs = itertools.product(wishes_of(first, crowns, names), wishes_of(size - 1 - first, crowns, names))
        wishes += [(kind, a, b) for a, b in pairs for kind in ("and", "or")]
    return tuple(wishes)


def seeded_wish(source, size, crowns, names=()):
    """A wish of so many signs that isn't loose, by a seeded source."""
    if size == 1:
        if names and source.random() < 0.7:
            return ("name", source.choice(names))
        return (source.choice(("is", "not")), source.choice(crowns))
    kind = source.choice(("and", "or", "all", "some", "least", "most"))
    if kind in ("and", "or") and size > 2:
        first = source.randint(1, size - 2)
        return (kind, seeded_wish(source, first, crowns, names), seeded_wish(source, size - 1 - first, crowns, names))
    if kind in ("least", "most"):
        name = source.choice(("a", "b", "c"))
        return (kind, name, seeded_wish(source, size - 1, crowns, names + (name,)))
    return (source.choice(("all", "some")), seeded_wish(source, size - 1, crowns, names))
