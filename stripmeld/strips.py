"""A field: a list of strips (holder, width) from left to right."""

from stripmeld.errors import BadHolder, BadOrder, BadWidth, TooManyStrips

HOLDERS = 10
STRIPS = 40
WIDEST = 1000


# No refusal here shows the number that it is due to: Python won't write out a number of some thousand
# figures, and would raise an error of its own in the place of the one that is promised.
def check_holder(holder):
    if holder < 1 or holder > HOLDERS:
        raise BadHolder(f"a holder is a number from 1 to {HOLDERS}")


def check_width(width):
    if width < 1 or width > WIDEST:
        raise BadWidth(f"a width is a number from 1 to {WIDEST}")


def check_strips(strips):
    if len(strips) > STRIPS:
        raise TooManyStrips(f"a field has at most {STRIPS} strips")
    for holder, width in strips:
        check_holder(holder)
        check_width(width)


def holders_of(strips):
    return sorted(set([holder for holder, width in strips]))


def begins_run(strips, index):
    return index == 0 or strips[index - 1][0] != strips[index][0]


# Every holder with strips begins at least one run of neighbouring strips; whoever begins a second one
# has somebody else's strip between two of his own.
def lies_together(strips):
    runs = [index for index in range(len(strips)) if begins_run(strips, index)]
    return len(runs) == len(holders_of(strips))


# Sorted, a list that leaves a holder out, has one twice or has a stranger differs from the list of holders.
def check_order(strips, order):
    if sorted(order) != holders_of(strips):
        raise BadOrder("an order has each holder with strips once, and nobody else")


def gathered(strips, order):
    check_order(strips, order)
    field = []
    for holder in order:
        field.extend([strip for strip in strips if strip[0] == holder])
    return field
