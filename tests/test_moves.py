import itertools
import random
import unittest

from helper import HUGE, TEN, MeldCase, small_fields, wrong_orders
from stripmeld.costs import order_cost
from stripmeld.errors import BadOrder, NoStrip
from stripmeld.moves import told_moves, walk_places
from stripmeld.strips import gathered

FIELD = [(3, 9), (1, 2), (3, 4), (2, 8), (1, 1), (3, 6)]
TURNED = [(10 - place // 4, 1 + place * 389 % 1000) for place in range(40)]


def numbered(field):
    return [(number, holder, width) for number, (holder, width) in enumerate(field, start=1)]


def moves_by_words(field, order):
    """The exchanges as the document tells them: each time the wrong two furthest left."""
    lying = numbered(field)
    moves = []
    while True:
        wrong = [place for place in range(1, len(lying))
                 if order.index(lying[place - 1][1]) > order.index(lying[place][1])]
        if not wrong:
            return moves
        place = wrong[0]
        left, right = lying[place - 1], lying[place]
        moves.append((place, left[0], right[0], left[2] * right[2]))
        lying[place - 1], lying[place] = right, left


def walk_by_words(field, places):
    lying = numbered(field)
    cost = 0
    for place in places:
        cost += lying[place - 1][2] * lying[place][2]
        lying[place - 1], lying[place] = lying[place], lying[place - 1]
    return ([number for number, _, _ in lying], cost)


class MovesCase(MeldCase):
    def check_carried_out(self, field, order):
        """Carried out one by one the told exchanges must lead to what `gathered` tells, at the order's cost."""
        moves = self.ask(told_moves, field, order)
        lying = numbered(field)
        exchanged = set()
        for place, left, right, cost in moves:
            one, other = lying[place - 1], lying[place]
            self.assertEqual((one[0], other[0], one[2] * other[2]), (left, right, cost))
            self.assertNotEqual(one[1], other[1])
            self.assertNotIn((left, right), exchanged)
            exchanged |= {(left, right), (right, left)}
            lying[place - 1:place + 1] = [other, one]
        self.assertEqual([(holder, width) for _, holder, width in lying], gathered(field, order))
        self.assertEqual(sum(cost for _, _, _, cost in moves), order_cost(field, order))
        self.assertLessEqual(len(moves), 780)
        numbers = [number for number, _, _ in lying]
        told = walk_places(field, [place for place, _, _, _ in moves])
        self.assertEqual(told, (numbers, order_cost(field, order)))
        return moves


class ToldMovesTest(MovesCase):
    def test_nothing_to_exchange(self):
        self.assertEqual(self.ask(told_moves, [], []), [])
        self.assertEqual(self.ask(told_moves, [(4, 7)], [4]), [])
        self.assertEqual(self.ask(told_moves, [(4, 7)] * 40, [4]), [])
        self.assertEqual(self.ask(told_moves, [(2, 7), (2, 1), (1, 5)], [2, 1]), [])

    def test_two_strips(self):
        self.assertEqual(self.ask(told_moves, [(1, 3), (2, 5)], [2, 1]), [(1, 1, 2, 15)])

    def test_reckoned_by_hand(self):
        self.assertEqual(self.ask(told_moves, FIELD, [1, 2, 3]),
                         [(1, 1, 2, 18), (3, 3, 4, 32), (2, 1, 4, 72), (4, 3, 5, 4), (3, 1, 5, 9), (2, 4, 5, 8)])
        self.assertEqual(self.ask(told_moves, FIELD, [3, 1, 2]),
                         [(2, 2, 3, 8), (4, 4, 5, 8), (5, 4, 6, 48), (4, 5, 6, 6), (3, 2, 6, 12)])

    def test_the_two_furthest_left_come_first(self):
        field = [(2, 1), (1, 1), (2, 1), (1, 1)]
        self.assertEqual(self.ask(told_moves, field, [1, 2]), [(1, 1, 2, 1), (3, 3, 4, 1), (2, 1, 4, 1)])
        field = [(3, 1), (2, 1), (1, 1)]
        self.assertEqual(self.ask(told_moves, field, [1, 2, 3]), [(1, 1, 2, 1), (2, 1, 3, 1), (1, 2, 3, 1)])

    def test_every_small_field_in_every_order(self):
        for field in small_fields(5):
            for order in itertools.permutations(sorted({holder for holder, _ in field})):
                self.assertEqual(self.check_carried_out(field, list(order)), moves_by_words(field, order))

    def test_many_fields(self):
        chance = random.Random(5)
        for _ in range(40):
            field = [(chance.randint(1, 10), chance.randint(1, 1000)) for _ in range(chance.randint(8, 40))]
            order = list({holder for holder, _ in field})
            chance.shuffle(order)
            self.assertEqual(self.check_carried_out(field, order), moves_by_words(field, order))

    def test_a_field_in_just_the_other_order(self):
        moves = self.check_carried_out(TURNED, TEN)
        self.assertEqual(len(moves), 45 * 16)
        self.assertEqual(moves, moves_by_words(TURNED, TEN))
        unlike = [(left, right) for left, right in itertools.combinations(range(1, 41), 2)
                  if TURNED[left - 1][0] != TURNED[right - 1][0]]
        self.assertEqual(sorted((left, right) for _, left, right, _ in moves), unlike)
        self.assertEqual(self.ask(told_moves, TURNED, TEN[::-1]), [])

    def test_ten_strips_in_just_the_other_order(self):
        field = [(holder, 1000) for holder in TEN]
        moves = self.check_carried_out(field, TEN[::-1])
        self.assertEqual(len(moves), 45)
        self.assertEqual(moves[:3], [(1, 1, 2, 1000000), (2, 1, 3, 1000000), (1, 2, 3, 1000000)])

    def test_bad_orders_are_refused(self):
        for field in ([], [(4, 3)], [(2, 1), (1, 5)], FIELD, TURNED):
            for number, order in enumerate(wrong_orders(field)):
                with self.subTest(field, number=number):
                    self.refuse(BadOrder, told_moves, field, order)

    def test_a_refused_call_changes_nothing(self):
        before = told_moves(FIELD, [2, 3, 1])
        self.refuse(BadOrder, told_moves, FIELD, [2, 3])
        self.assertEqual(told_moves(FIELD, [2, 3, 1]), before)

    def test_kinds(self):
        moves = told_moves(FIELD, [2, 3, 1])
        self.check_kinds(moves, tuple)
        for move in moves:
            self.assertEqual(len(move), 4)
            self.check_kinds(list(move), int)

    def test_the_list_is_a_new_one(self):
        field = [(2, 2), (1, 3)]
        order = [1, 2]
        told = told_moves(field, order)
        told.append((1, 1, 2, 6))
        self.assertEqual(told_moves(field, order), [(1, 1, 2, 6)])
        told = told_moves(field, order)
        field.clear()
        order.clear()
        self.assertEqual(told, [(1, 1, 2, 6)])
        told_moves(field, order).append((1, 1, 2, 6))
        self.assertEqual((field, order, told_moves(field, order)), ([], [], []))


class WalkPlacesTest(MovesCase):
    def test_no_places(self):
        self.assertEqual(self.ask(walk_places, [], []), ([], 0))
        self.assertEqual(self.ask(walk_places, [(4, 7)], []), ([1], 0))
        self.assertEqual(self.ask(walk_places, FIELD, []), ([1, 2, 3, 4, 5, 6], 0))

    def test_two_strips(self):
        field = [(1, 3), (2, 5)]
        self.assertEqual(self.ask(walk_places, field, [1]), ([2, 1], 15))
        self.assertEqual(self.ask(walk_places, field, [1, 1]), ([1, 2], 30))
        self.assertEqual(self.ask(walk_places, field, [1, 1, 1]), ([2, 1], 45))

    def test_strips_of_one_holder_are_exchanged_too(self):
        self.assertEqual(self.ask(walk_places, [(1, 3), (1, 5)], [1]), ([2, 1], 15))
        self.assertEqual(self.ask(walk_places, [(1, 3), (1, 3), (2, 1)], [1, 2]), ([2, 3, 1], 12))

    def test_each_place_as_the_field_stands_then(self):
        field = [(1, 2), (2, 3), (3, 5), (4, 7)]
        self.assertEqual(self.ask(walk_places, field, [1, 2, 3]), ([2, 3, 4, 1], 2 * 3 + 2 * 5 + 2 * 7))
        self.assertEqual(self.ask(walk_places, field, [3, 2, 1]), ([4, 1, 2, 3], 7 * 5 + 7 * 3 + 7 * 2))
        self.assertEqual(self.ask(walk_places, field, [2, 1, 3]), ([3, 1, 4, 2], 3 * 5 + 2 * 5 + 3 * 7))

    def test_every_walk_of_up_to_four_by_the_documents_words(self):
        field = [(2, 1), (1, 10), (1, 100), (2, 1000)]
        for many in range(5):
            for places in itertools.product((1, 2, 3), repeat=many):
                self.assertEqual(self.ask(walk_places, field, list(places)), walk_by_words(field, places))

    def test_a_thousand_places(self):
        field = [(1 + place % 10, 1000 - place) for place in range(40)]
        places = [1 + step * 17 % 39 for step in range(1000)]
        self.assertEqual(self.ask(walk_places, field, places), walk_by_words(field, places))
        self.assertEqual(self.ask(walk_places, field, [39] * 1000), (list(range(1, 41)), 1000 * 962 * 961))
        self.assertEqual(self.ask(walk_places, [(1, 1000)] * 40, [1] * 1000), (list(range(1, 41)), 1000 ** 3))

    def test_more_places_are_not_refused(self):
        self.assertEqual(self.ask(walk_places, [(1, 3), (2, 5)], [1] * 1001), ([2, 1], 15015))

    def test_no_place_is_good_in_a_field_of_none_or_one(self):
        for field in ([], [(4, 7)]):
            for number, place in enumerate((1, 0, -1, 2, 40, HUGE, -HUGE)):
                with self.subTest(field, number=number):
                    self.refuse(NoStrip, walk_places, field, [place])

    def test_places_out_of_bounds(self):
        for field in (FIELD[:2], FIELD, TURNED):
            many = len(field)
            for number, place in enumerate((0, -1, -many, many, many + 1, 100, HUGE, -HUGE)):
                with self.subTest(field, number=number):
                    self.refuse(NoStrip, walk_places, field, [place])
                    self.refuse(NoStrip, walk_places, field, [1, many - 1, place])
                    self.refuse(NoStrip, walk_places, field, [place, 1])
            self.assertEqual(self.ask(walk_places, field, [1]), walk_by_words(field, [1]))
            self.assertEqual(self.ask(walk_places, field, [many - 1]), walk_by_words(field, [many - 1]))

    def test_a_bad_place_behind_a_thousand_good_ones(self):
        self.refuse(NoStrip, walk_places, FIELD, [5] * 999 + [6])

    def test_a_refused_call_changes_nothing(self):
        self.refuse(NoStrip, walk_places, FIELD, [1, 2, 6])
        self.assertEqual(walk_places(FIELD, []), ([1, 2, 3, 4, 5, 6], 0))

    def test_kinds(self):
        for places in ([], [1, 5, 3]):
            told = walk_places(FIELD, places)
            self.assertIs(told.__class__, tuple)
            self.check_kinds(told[0], int)
            self.assertIs(told[1].__class__, int)

    def test_the_list_is_a_new_one(self):
        field = [(2, 2), (1, 3)]
        places = [1]
        told = walk_places(field, places)
        told[0].append(3)
        self.assertEqual(walk_places(field, places), ([2, 1], 6))
        told = walk_places(field, places)
        field.clear()
        places.clear()
        self.assertEqual(told, ([2, 1], 6))
        walk_places(field, places)[0].append(1)
        self.assertEqual((field, places, walk_places(field, places)), ([], [], ([], 0)))


if __name__ == "__main__":
    unittest.main()
