"""Exchanges of neighbours, told one by one or carried out in turn."""

from stripmeld.errors import NoStrip
from stripmeld.strips import check_order


def own_numbers(strips):
    return [index + 1 for index in range(len(strips))]


def exchange_cost(strips, numbers, place):
    left = strips[numbers[place - 1] - 1]
    right = strips[numbers[place] - 1]
    return left[1] * right[1]


def exchanged(numbers, place):
    return numbers[:place - 1] + [numbers[place], numbers[place - 1]] + numbers[place + 1:]


# 0 where no two neighbours stand the other way about.
def first_wrong_place(numbers, ranks):
    for place in range(1, len(numbers)):
        if ranks[numbers[place - 1] - 1] > ranks[numbers[place] - 1]:
            return place
    return 0


def told_moves(strips, order):
    check_order(strips, order)
    ranks = [order.index(holder) for holder, width in strips]
    numbers = own_numbers(strips)
    moves = []
    place = first_wrong_place(numbers, ranks)
    while place > 0:
        moves.append((place, numbers[place - 1], numbers[place], exchange_cost(strips, numbers, place)))
        numbers = exchanged(numbers, place)
        place = first_wrong_place(numbers, ranks)
    return moves


# The refusal doesn't show the place: Python won't write out a number of some thousand figures.
def check_neighbours(strips, place):
    if place < 1 or place >= len(strips):
        raise NoStrip("no two neighbours lie at that place")


def walk_places(strips, places):
    numbers = own_numbers(strips)
    cost = 0
    for place in places:
        check_neighbours(strips, place)
        cost += exchange_cost(strips, numbers, place)
        numbers = exchanged(numbers, place)
    return (numbers, cost)
