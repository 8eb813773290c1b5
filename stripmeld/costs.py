"""What it costs that holders lie in an order."""

from stripmeld.strips import check_order


# Each strip of `ahead` must pass all strips of `behind` to its left, so the sum of their widths so far
# is enough. Where both are the same number no strip reaches the second branch, and the cost stays 0.
def pair_cost(strips, ahead, behind):
    to_pass = 0
    cost = 0
    for holder, width in strips:
        if holder == behind:
            to_pass += width
        elif holder == ahead:
            cost += to_pass * width
    return cost


def order_cost(strips, order):
    check_order(strips, order)
    cost = 0
    for index, ahead in enumerate(order):
        for behind in order[index + 1:]:
            cost += pair_cost(strips, ahead, behind)
    return cost
