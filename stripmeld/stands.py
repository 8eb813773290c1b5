"""All stands of a small field, and the least cost that is found by going through them."""

from stripmeld.errors import TooManyStands
from stripmeld.moves import own_numbers
from stripmeld.strips import lies_together
from stripmeld.wishes import broken_wishes, check_no_ring

SMALL = 7


def check_small(strips):
    if len(strips) > SMALL:
        raise TooManyStands(f"only a field of at most {SMALL} strips is gone through")


# Two strips that stand the other way about than in the field must be exchanged at least once, and once is
# enough. So a strip pays once for each one that lay ahead of it in the field and does not yet stand.
def cost_to_come_next(strips, stand, number):
    passed = [strips[other - 1][1] for other in range(1, number) if other not in stand]
    return strips[number - 1][1] * sum(passed)


# The stands come sorted and each grows by the least number first, so the longer ones come sorted too.
def longer_stands(strips, stands):
    longer = []
    for stand, cost in stands:
        for number in own_numbers(strips):
            if number not in stand:
                longer.append((stand + (number,), cost + cost_to_come_next(strips, stand, number)))
    return longer


def all_stands(strips):
    check_small(strips)
    stands = [((), 0)]
    for length in range(len(strips)):
        stands = longer_stands(strips, stands)
    return stands


def holders_from_left(field):
    order = []
    for holder, width in field:
        if holder not in order:
            order.append(holder)
    return order


# A wish that does not count has a holder without strips, who stands in no such order.
def is_melded(field, wishes):
    return lies_together(field) and not broken_wishes(holders_from_left(field), wishes)


def field_of_stand(strips, stand):
    return [strips[number - 1] for number in stand]


def least_by_stands(strips, wishes):
    check_small(strips)
    check_no_ring(strips, wishes)
    stands = all_stands(strips)
    return min([cost for stand, cost in stands if is_melded(field_of_stand(strips, stand), wishes)])
