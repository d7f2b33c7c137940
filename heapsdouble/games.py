"""Two players who make steps in turn: who wins, how soon, and by which steps."""

from heapsdouble.checks import check_heaps
from heapsdouble.errors import BadHeaps, TooGreat
from heapsdouble.moves import all_behind, behind, steps_from
from heapsdouble.small import reachable

MOST_PLAYED_HEAPS = 3
GREATEST_PLAYED_SUM = 30

# Behind a step the other player begins, and is called the first one.
TOLD_BY_OTHER = {"first": "second", "second": "first", "nobody": "nobody"}


def winner(heaps):
    """Return "first" or "second" for the player who can win, "nobody" if none can."""
    check_played(heaps)
    return verdict(heaps, game_lengths(heaps))


def forced(heaps):
    """Return the number of steps until the game is won, None if nobody can win it."""
    check_played(heaps)
    return game_lengths(heaps).get(heaps)


def good_steps(heaps):
    """Return the ascending list of the steps behind which the first player fares as well."""
    check_played(heaps)
    lengths = game_lengths(heaps)
    wanted = TOLD_BY_OTHER[verdict(heaps, lengths)]
    return [step for step in steps_from(heaps) if verdict(behind(heaps, step), lengths) == wanted]


def check_played(heaps):
    """Raise BadHeaps for what is not two or three heaps, none of them empty, TooGreat for too great ones."""
    check_heaps(heaps)
    if len(heaps) > MOST_PLAYED_HEAPS or 0 in heaps:
        raise BadHeaps()
    if sum(heaps) > GREATEST_PLAYED_SUM:
        raise TooGreat()


def verdict(heaps, lengths):
    """Return the winner from these heaps, as game_lengths tells it."""
    length = lengths.get(heaps)
    if length is None:
        return "nobody"
    return "first" if length % 2 == 1 else "second"


def game_lengths(heaps):
    """Return {heaps: steps until the game is won} of all that can come to be and from which somebody can win."""
    onward = {stand: all_behind(stand) for stand in reachable(heaps)}
    lengths = {}
    length = 0
    # Behind the last step the second player has won, so 0 is even as all lengths by which that one wins.
    decided = [stand for stand in onward if 0 in stand]
    while decided:
        for stand in decided:
            lengths[stand] = length
        length += 1
        decided = decided_by(length, onward, lengths)
    return lengths


def decided_by(length, onward, lengths):
    """Return all heaps from which the game takes so many steps, where all lower lengths are known."""
    left = [stand for stand in onward if stand not in lengths]
    if length % 2 == 1:
        return [stand for stand in left if any([lengths.get(later) == length - 1 for later in onward[stand]])]
    # What leads to an even length is not left any more, so all lengths behind these are odd ones.
    return [stand for stand in left if all([later in lengths for later in onward[stand]])]
