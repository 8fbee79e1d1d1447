"""Plans: what a hand holds and how it goes on there, and the papers that show that a plan wins."""

from crownwalk.errors import Lost


def keeps(game, hand, plan):
    """True where no walk that follows the plan can leave what it holds."""
    return all([0 <= key < len(game) and kept(game, hand, plan, key) for key in plan])


def kept(game, hand, plan, place):
    """True where each way that a walk can go at a held place is one of its ways and held."""
    return all([way in game[place][2] and way in plan for way in followed(game, hand, plan, place)])


def followed(game, hand, plan, place):
    """The places to which a walk that follows the plan can go from a held place, a tuple."""
    if game[place][0] == hand:
        return (plan[place],)
    return game[place][2]


def wins(game, hand, plan):
    """True where the plan keeps and every walk that follows it is won by the hand."""
    if not keeps(game, hand, plan):
        return False
    # A round with a greatest crown of the other hand's is a way back to each of its places with this crown.
    return not any([comes_back(game, hand, plan, place) for place in plan if game[place][1] % 2 != hand])


def comes_back(game, hand, plan, place):
    """True where a round that follows the plan goes through the place and meets no greater crown."""
    met = {}
    coming = list(followed(game, hand, plan, place))
    while len(coming) > 0:
        new = coming.pop()
        if new not in met and game[new][1] <= game[place][1]:
            met[new] = True
            coming.extend(followed(game, hand, plan, new))
    return place in met


def feared(game, hand):
    """The crowns of the game with which the other hand wins, each once, rising."""
    return sorted(set([crown for owner, crown, ways in game if crown % 2 != hand]))


def paper(game, hand, plan):
    """The paper of a plan that wins: a dict with a list of counts, one for each feared crown, at each held place."""
    if not wins(game, hand, plan):
        raise Lost("the plan doesn't win")
    counts = [counts_of(game, hand, plan, crown) for crown in feared(game, hand)]
    told = {}
    for place in plan:
        told[place] = [count[place] for count in counts]
    return told


def counts_of(game, hand, plan, crown):
    """A dict with how often, at most, a walk from each held place meets the feared crown ahead of a greater one."""
    counts = {}
    for place in plan:
        counts[place] = 0
    # Ahead of a greater crown no place with the feared one comes again, and a round without it can be left out:
    # so no count needs a walk of more places than are held, and each turn lets the walks be a place longer.
    for turn in range(len(plan)):
        counts = longer_counts(game, hand, plan, crown, counts)
    return counts


def longer_counts(game, hand, plan, crown, counts):
    """The counts of walks that are a place longer than those of the given counts."""
    longer = {}
    for place in plan:
        if game[place][1] > crown:
            longer[place] = 0
        else:
            most = max([counts[way] for way in followed(game, hand, plan, place)])
            longer[place] = most + 1 if game[place][1] == crown else most
    return longer


def shows(game, hand, plan, paper):
    """True where the plan keeps and the paper's numbers show that it wins."""
    if not keeps(game, hand, plan):
        return False
    crowns = feared(game, hand)
    return all([shown_at(game, hand, plan, paper, crowns, place) for place in plan])


def shown_at(game, hand, plan, numbers, crowns, place):
    """True where the paper's numbers fall as they must at each step from a held place."""
    own = game[place][1]
    for way in followed(game, hand, plan, place):
        for at, crown in enumerate(crowns):
            # Where the crown is the place's own the number must fall by one at least; else it must only not rise.
            fall = 1 if crown == own else 0
            if crown >= own and numbers[way][at] + fall > numbers[place][at]:
                return False
    return True
