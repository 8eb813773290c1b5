"""The cheapest order, found by the least cost of each set of holders."""

from stripmeld.costs import pair_cost
from stripmeld.strips import holders_of
from stripmeld.wishes import check_no_ring


def pair_costs(strips):
    holders = holders_of(strips)
    costs = {}
    for ahead in holders:
        for behind in holders:
            costs[(ahead, behind)] = pair_cost(strips, ahead, behind)
    return costs


# A holder doubles the list: behind the sets without him come the same sets with him. So the index of a
# set is the sum of what its holders' binary figures are worth, and a set comes behind all its subsets.
def sets_of(holders):
    sets = [()]
    for holder in holders:
        sets = sets + [members + (holder,) for members in sets]
    return sets


def without(members, holder):
    return tuple([member for member in members if member != holder])


def may_lie_last(members, holder, wishes):
    return not any([ahead == holder and behind in members for ahead, behind in wishes])


def may_lie_first(members, holder, wishes):
    return not any([behind == holder and ahead in members for ahead, behind in wishes])


def cost_with_last(members, last, least, pairs):
    others = without(members, last)
    return least[others] + sum([pairs[(other, last)] for other in others])


def cost_with_first(members, first, least, pairs):
    others = without(members, first)
    return least[others] + sum([pairs[(first, other)] for other in others])


# Without a ring every set has a holder that may lie last, so that there is always a least sum.
def least_costs(strips, wishes, pairs):
    least = {(): 0}
    for members in sets_of(holders_of(strips))[1:]:
        lasts = [holder for holder in members if may_lie_last(members, holder, wishes)]
        least[members] = min([cost_with_last(members, last, least, pairs) for last in lasts])
    return least


def cost_table(strips, wishes):
    check_no_ring(strips, wishes)
    least = least_costs(strips, wishes, pair_costs(strips))
    return list(least.values())


# Built from the left, since the order first by its numbers is due: the number of a set is also what the
# cheapest holder to lie first costs, and the least such holder still leads to the least cost.
def best_order(strips, wishes):
    check_no_ring(strips, wishes)
    pairs = pair_costs(strips)
    least = least_costs(strips, wishes, pairs)
    members = tuple(holders_of(strips))
    order = []
    while members:
        firsts = [holder for holder in members if may_lie_first(members, holder, wishes)]
        best = [first for first in firsts if cost_with_first(members, first, least, pairs) == least[members]]
        order.append(best[0])
        members = without(members, best[0])
    return order


def least_cost(strips, wishes):
    return cost_table(strips, wishes)[-1]
