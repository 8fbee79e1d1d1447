"""Who wins each place, and by which plan."""

from crownwalk.pulls import pull_steps, pulled


def solved(game):
    """A list with the hand that wins each place."""
    plans = told_plans(game, list(range(len(game))))
    return [0 if place in plans[0] else 1 for place in range(len(game))]


def plan_of(game, hand):
    """The told plan of a hand: it holds all places that the hand wins, and wins."""
    return told_plans(game, list(range(len(game))))[hand]


def told_plans(game, left):
    """A list of the told plans of hand 0 and hand 1, over the places that are left of a game.

    Each place left has a way to a place left. Each turn takes away places that one hand surely wins.
    """
    plans = [{}, {}]
    while len(left) > 0:
        part = part_of(game, left)
        crown = max([game[place][1] for place in left])
        hand = crown % 2
        goals = [place for place in left if game[place][1] == crown]
        near = pulled(part, hand, goals)
        # The greatest crown is gone from these, so the calls go no deeper than there are unlike crowns.
        inner = told_plans(part, [place for place in left if place not in near])
        # If the other hand wins none of these, the walker stays there and the hand wins, or meets the greatest crown
        # again and again. Else the other hand wins those, and whatever it pulls to them.
        if len(inner[1 - hand]) > 0:
            hand = 1 - hand
            goals = list(inner[hand])
        plans[hand].update(pull_plan(part, hand, goals))
        plans[hand].update(inner[hand])
        left = [place for place in left if place not in plans[hand]]
    return plans


def pull_plan(game, hand, goals):
    """A plan that holds the places that the hand pulls to the goals; at a goal it goes by the least way."""
    steps = pull_steps(game, hand, goals)
    plan = {}
    for place in pulled(game, hand, goals):
        plan[place] = steps.get(place, game[place][2][0]) if game[place][0] == hand else None
    return plan


def part_of(game, left):
    """The game with no ways but to places left; a place that isn't left goes to itself, so nothing pulls it."""
    there = {}
    for place in left:
        there[place] = True
    return tuple([place_left(game, place, there) for place in range(len(game))])


def place_left(game, place, there):
    """A place of the game of those that are there."""
    ways = (place,)
    if place in there:
        ways = tuple([way for way in game[place][2] if way in there])
    return (game[place][0], game[place][1], ways)
