"""Wishes about who lies ahead of whom: tuples (ahead, behind) of two holders."""

from stripmeld.errors import Ringed
from stripmeld.strips import holders_of

MOST_WISHES = 20


def counted_wishes(strips, wishes):
    holders = holders_of(strips)
    return [(ahead, behind) for ahead, behind in wishes if ahead in holders and behind in holders]


def broken_wishes(order, wishes):
    index_of = {}
    for index, holder in enumerate(order):
        index_of[holder] = index
    between = [(ahead, behind) for ahead, behind in wishes if ahead in index_of and behind in index_of]
    return [(ahead, behind) for ahead, behind in between if index_of[behind] < index_of[ahead]]


# The paths come first by their numbers and `left` from the least number up, so the first path that
# reaches a holder is the first by its numbers of all that reach him; the others can be left out.
def longer_paths(paths, left, wishes):
    longer = []
    reached = {}
    for path in paths:
        for holder in left:
            if holder not in reached and (path[-1], holder) in wishes:
                reached[holder] = True
                longer.append(path + [holder])
    return longer


# Only greater holders are walked through, so that the ring is told from its least holder on.
def ring_from(least, holders, wishes):
    paths = [[least]]
    left = sorted([holder for holder in holders if holder > least])
    while paths:
        rings = [path for path in paths if (path[-1], least) in wishes]
        if rings:
            return rings[0]
        paths = longer_paths(paths, left, wishes)
        reached = [path[-1] for path in paths]
        left = [holder for holder in left if holder not in reached]
    return []


def find_ring(holders, wishes):
    ring = []
    for least in sorted(holders):
        found = ring_from(least, holders, wishes)
        # A ring as long as an earlier one stands behind it, since its least holder is greater.
        if found and (not ring or len(found) < len(ring)):
            ring = found
    return ring


# A ring among the holders that have strips is one of wishes that count: the others have a holder without.
def check_no_ring(strips, wishes):
    ring = find_ring(holders_of(strips), wishes)
    if ring:
        raise Ringed(ring)
