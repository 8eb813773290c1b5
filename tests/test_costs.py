import itertools
import unittest

from helper import HUGE, MeldCase, pair_by_words, small_fields, wrong_orders
from stripmeld.costs import order_cost, pair_cost
from stripmeld.errors import BadOrder

FIELD = [(3, 9), (1, 2), (3, 4), (2, 8), (1, 1), (3, 6)]


class PairCostTest(MeldCase):
    def test_without_strips(self):
        self.assertEqual(self.ask(pair_cost, [], 1, 2), 0)
        self.assertEqual(self.ask(pair_cost, [], 1, 1), 0)

    def test_two_strips(self):
        self.assertEqual(self.ask(pair_cost, [(1, 3), (2, 5)], 1, 2), 0)
        self.assertEqual(self.ask(pair_cost, [(1, 3), (2, 5)], 2, 1), 15)

    def test_reckoned_by_hand(self):
        self.assertEqual(self.ask(pair_cost, FIELD, 1, 2), 1 * 8)
        self.assertEqual(self.ask(pair_cost, FIELD, 2, 1), 8 * 2)
        self.assertEqual(self.ask(pair_cost, FIELD, 1, 3), 2 * 9 + 1 * 9 + 1 * 4)
        self.assertEqual(self.ask(pair_cost, FIELD, 3, 1), 4 * 2 + 6 * 2 + 6 * 1)
        self.assertEqual(self.ask(pair_cost, FIELD, 2, 3), 8 * 9 + 8 * 4)
        self.assertEqual(self.ask(pair_cost, FIELD, 3, 2), 6 * 8)

    def test_the_widest_and_most(self):
        field = [(1, 1000)] * 20 + [(2, 1000)] * 20
        self.assertEqual(self.ask(pair_cost, field, 2, 1), 400 * 1000 * 1000)
        self.assertEqual(self.ask(pair_cost, field, 1, 2), 0)

    def test_the_same_number_twice(self):
        for number in (-HUGE, -1, 0, 1, 2, 3, 10, 11, HUGE):
            self.assertEqual(self.ask(pair_cost, FIELD, number, number), 0)

    def test_numbers_without_strips_and_no_holders(self):
        for stranger in (-HUGE, -3, -1, 0, 4, 10, 11, HUGE):
            for holder in (1, 2, 3, 5):
                self.assertEqual(self.ask(pair_cost, FIELD, stranger, holder), 0)
                self.assertEqual(self.ask(pair_cost, FIELD, holder, stranger), 0)
        self.assertEqual(self.ask(pair_cost, FIELD, 0, 11), 0)

    def test_every_small_field_by_the_documents_words(self):
        for field in small_fields(5):
            for ahead, behind in itertools.product(range(5), repeat=2):
                self.assertEqual(self.ask(pair_cost, field, ahead, behind), pair_by_words(field, ahead, behind))


class OrderCostTest(MeldCase):
    def test_none_or_one_holder(self):
        self.assertEqual(self.ask(order_cost, [], []), 0)
        self.assertEqual(self.ask(order_cost, [(4, 7)], [4]), 0)
        self.assertEqual(self.ask(order_cost, [(4, 7)] * 40, [4]), 0)

    def test_two_holders(self):
        self.assertEqual(self.ask(order_cost, [(1, 3), (2, 5)], [1, 2]), 0)
        self.assertEqual(self.ask(order_cost, [(1, 3), (2, 5)], [2, 1]), 15)

    def test_reckoned_by_hand(self):
        by_hand = {(1, 2): 8, (2, 1): 16, (1, 3): 31, (3, 1): 26, (2, 3): 104, (3, 2): 48}
        for order in itertools.permutations((1, 2, 3)):
            one, two, three = order
            expected = by_hand[one, two] + by_hand[one, three] + by_hand[two, three]
            self.assertEqual(self.ask(order_cost, FIELD, list(order)), expected)
        self.assertEqual(order_cost(FIELD, [1, 2, 3]), 143)
        self.assertEqual(order_cost(FIELD, [3, 1, 2]), 82)

    def test_forty_strips_of_ten_holders_turned_about(self):
        field = [(1 + place // 4, 1000) for place in range(40)]
        order = [1, 2, 3, 4, 5, 6, 7, 8, 9, 10]
        self.assertEqual(self.ask(order_cost, field, order), 0)
        self.assertEqual(self.ask(order_cost, field, order[::-1]), 45 * 16 * 1000 * 1000)

    def test_every_small_field_in_every_order(self):
        for field in small_fields(4):
            for order in itertools.permutations(sorted({holder for holder, _ in field})):
                expected = sum(pair_by_words(field, ahead, behind)
                               for ahead, behind in itertools.combinations(order, 2))
                self.assertEqual(self.ask(order_cost, field, list(order)), expected)

    def test_bad_orders_are_refused(self):
        for field in ([], [(4, 3)], [(2, 1), (1, 5)], FIELD):
            for number, order in enumerate(wrong_orders(field)):
                with self.subTest(field, number=number):
                    self.refuse(BadOrder, order_cost, field, order)

    def test_asking_again_tells_the_same(self):
        self.assertEqual(order_cost(FIELD, [2, 1, 3]), order_cost(FIELD, [2, 1, 3]))
        self.refuse(BadOrder, order_cost, FIELD, [2, 1])
        self.assertEqual(order_cost(FIELD, [2, 1, 3]), 16 + 104 + 31)


if __name__ == "__main__":
    unittest.main()
