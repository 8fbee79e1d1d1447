"""Pulls: the places from which a hand can bring the walker to some goals."""


def pulled(game, hand, goals):
    """The places that the hand pulls to the goals, a rising list."""
    stages = stages_of(game, hand, goals)
    return [place for place in range(len(game)) if place in stages]


def pull_steps(game, hand, goals):
    """A dict with the step of each pulled place of the hand that is no goal."""
    stages = stages_of(game, hand, goals)
    steps = {}
    for place in range(len(game)):
        if game[place][0] == hand and stages.get(place, 0) > 0:
            steps[place] = least_step(game[place][2], stages, stages[place])
    return steps


def least_step(ways, stages, stage):
    """The least of the ways to a place that was there ahead of the stage."""
    return min([way for way in ways if way in stages and stages[way] < stage])


def stages_of(game, hand, goals):
    """A dict with the stage at which each pulled place comes, 0 for a goal."""
    stages = {}
    for goal in goals:
        stages[goal] = 0
    stage = 0
    coming = list(goals)
    while len(coming) > 0:
        stage += 1
        # All of a stage is found before any of it is there, so that none comes by way of another of its own stage.
        coming = [place for place in range(len(game)) if place not in stages and drawn(game[place], hand, stages)]
        for place in coming:
            stages[place] = stage
    return stages


def drawn(place, hand, stages):
    """True where the place comes next to those that are there."""
    there = [way in stages for way in place[2]]
    if place[0] == hand:
        return any(there)
    return all(there)
