"""Walks by steps, and the rings to which they come."""


def walked(game, steps, start):
    """A tuple of two lists: the places ahead of the ring, and the ring, of the walk from a start by steps."""
    met = []
    place = start
    while place not in met:
        met.append(place)
        place = steps[place]
    first = met.index(place)
    return (met[:first], met[first:])


def winner(game, ring):
    """The hand that wins a walk that goes round the ring for ever."""
    return max([game[place][1] for place in ring]) % 2
