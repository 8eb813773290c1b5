import itertools
import unittest

from helper import HUGE, MeldCase, small_fields, wrong_orders
from stripmeld import strips as strips_file
from stripmeld.errors import BadHolder, BadOrder, BadWidth, TooManyStrips
from stripmeld.strips import check_strips, gathered, holders_of, lies_together

BELOW_AND_ABOVE = (-HUGE, -1001, -1, 0, HUGE)


class BoundsTest(unittest.TestCase):
    def test_bounds(self):
        self.assertEqual((strips_file.HOLDERS, strips_file.STRIPS, strips_file.WIDEST), (10, 40, 1000))


class CheckStripsTest(MeldCase):
    def test_good_fields_are_answered_with_none(self):
        for field in ([], [(1, 1)], [(10, 1000)], [(3, 5), (2, 7), (3, 1)]):
            with self.subTest(field):
                self.assertIsNone(self.ask(check_strips, field))

    def test_every_holder_and_every_width_in_bounds(self):
        for holder in range(1, 11):
            self.assertIsNone(self.ask(check_strips, [(holder, 500)]))
        for width in range(1, 1001):
            self.assertIsNone(self.ask(check_strips, [(5, width)]))

    def test_forty_strips_at_most(self):
        self.assertIsNone(self.ask(check_strips, [(10, 1000)] * 40))
        self.refuse(TooManyStrips, check_strips, [(10, 1000)] * 41)
        self.refuse(TooManyStrips, check_strips, [(1, 1)] * 500)

    def test_too_many_strips_comes_ahead_of_a_bad_strip(self):
        for bad in ((0, 1), (11, 1), (1, 0), (1, 1001), (HUGE, -HUGE)):
            for place in (0, 20, 40):
                field = [(1, 1)] * 41
                field[place] = bad
                with self.subTest(place=place):
                    self.refuse(TooManyStrips, check_strips, field)

    def test_bad_holder(self):
        for number, holder in enumerate(BELOW_AND_ABOVE + (11, 12)):
            with self.subTest(number):
                self.refuse(BadHolder, check_strips, [(holder, 1)])

    def test_bad_width(self):
        for number, width in enumerate(BELOW_AND_ABOVE + (1001, 1002)):
            with self.subTest(number):
                self.refuse(BadWidth, check_strips, [(1, width)])

    def test_the_holder_is_looked_at_ahead_of_the_width(self):
        for holder, width in itertools.product((0, 11, -HUGE, HUGE), (0, 1001, -HUGE, HUGE)):
            self.refuse(BadHolder, check_strips, [(holder, width)])

    def test_the_first_bad_strip_from_the_left_decides(self):
        self.refuse(BadWidth, check_strips, [(1, 1), (2, 0), (0, 5)])
        self.refuse(BadWidth, check_strips, [(2, 1001), (11, 0), (3, 3)])
        self.refuse(BadHolder, check_strips, [(1, 1), (11, 5), (2, 0)])
        self.refuse(BadHolder, check_strips, [(0, 0), (2, 1001)])

    def test_a_bad_strip_is_found_at_every_place(self):
        for place in range(40):
            field = [(4, 4)] * 40
            field[place] = (11, 4)
            self.refuse(BadHolder, check_strips, field)
            field[place] = (4, 1001)
            self.refuse(BadWidth, check_strips, field)


class HoldersOfTest(MeldCase):
    def test_without_strips(self):
        self.assertEqual(self.ask(holders_of, []), [])

    def test_each_once_from_the_least_up(self):
        self.assertEqual(self.ask(holders_of, [(7, 1)]), [7])
        self.assertEqual(self.ask(holders_of, [(3, 9), (10, 1), (1, 2), (3, 4), (10, 1)]), [1, 3, 10])
        self.assertEqual(self.ask(holders_of, [(number, 1) for number in range(10, 0, -1)] * 4),
                         [1, 2, 3, 4, 5, 6, 7, 8, 9, 10])

    def test_the_list_is_a_new_one(self):
        field = [(2, 1), (1, 1)]
        holders_of(field).append(9)
        self.assertEqual(holders_of(field), [1, 2])
        told = holders_of(field)
        field.clear()
        self.assertEqual(told, [1, 2])
        self.assertEqual(holders_of(field), [])


def together_by_words(field):
    for left, between, right in itertools.combinations([holder for holder, _ in field], 3):
        if left == right and between != left:
            return False
    return True


class LiesTogetherTest(MeldCase):
    def test_none_or_one(self):
        self.assertIs(self.ask(lies_together, []), True)
        self.assertIs(self.ask(lies_together, [(4, 2)]), True)

    def test_side_by_side(self):
        self.assertIs(self.ask(lies_together, [(2, 1), (2, 5), (1, 1), (3, 1), (3, 1)]), True)
        self.assertIs(self.ask(lies_together, [(5, 1)] * 40), True)
        self.assertIs(self.ask(lies_together, [(2, 1), (1, 1)]), True)

    def test_scattered(self):
        self.assertIs(self.ask(lies_together, [(1, 1), (2, 1), (1, 1)]), False)
        self.assertIs(self.ask(lies_together, [(1, 1), (2, 1), (3, 1), (1, 1)]), False)
        self.assertIs(self.ask(lies_together, [(1, 1)] + [(2, 1)] * 38 + [(1, 1)]), False)
        self.assertIs(self.ask(lies_together, [(4, 1), (1, 1), (1, 1), (2, 1), (1, 1)]), False)

    def test_every_small_field_by_the_documents_words(self):
        for field in small_fields(5):
            self.assertIs(self.ask(lies_together, field), together_by_words(field), field)


class GatheredTest(MeldCase):
    def test_without_strips(self):
        self.assertEqual(self.ask(gathered, [], []), [])

    def test_each_holders_strips_in_their_old_order(self):
        field = [(3, 9), (1, 2), (3, 4), (2, 8), (1, 1), (3, 6)]
        self.assertEqual(self.ask(gathered, field, [1, 2, 3]),
                         [(1, 2), (1, 1), (2, 8), (3, 9), (3, 4), (3, 6)])
        self.assertEqual(self.ask(gathered, field, [3, 1, 2]),
                         [(3, 9), (3, 4), (3, 6), (1, 2), (1, 1), (2, 8)])

    def test_ten_holders_and_forty_strips(self):
        field = [(1 + place % 10, 1 + place) for place in range(40)]
        order = [10, 9, 8, 7, 6, 5, 4, 3, 2, 1]
        self.assertEqual(self.ask(gathered, field, order),
                         [(holder, holder + tens) for holder in order for tens in (0, 10, 20, 30)])

    def test_every_small_field_in_every_order(self):
        for field in small_fields(4):
            for order in itertools.permutations(sorted({holder for holder, _ in field})):
                told = self.ask(gathered, field, list(order))
                by_words = sorted(field, key=lambda strip: order.index(strip[0]))
                self.assertEqual(told, by_words)

    def test_bad_orders_are_refused(self):
        for field in ([], [(4, 3)], [(2, 1), (1, 5)], [(3, 9), (1, 2), (3, 4), (2, 8), (10, 1)]):
            for number, order in enumerate(wrong_orders(field)):
                with self.subTest(field, number=number):
                    self.refuse(BadOrder, gathered, field, order)

    def test_the_list_is_a_new_one(self):
        field = [(1, 1), (1, 2), (2, 3)]
        told = gathered(field, [1, 2])
        self.assertEqual(told, field)
        told.append((3, 3))
        self.assertEqual(field, [(1, 1), (1, 2), (2, 3)])
        self.assertEqual(gathered(field, [1, 2]), [(1, 1), (1, 2), (2, 3)])
        empty = []
        gathered(empty, empty).append((1, 1))
        self.assertEqual(empty, [])

    def test_what_is_told_stays_when_the_lists_are_changed(self):
        field = [(1, 1), (2, 3), (1, 2)]
        order = [2, 1]
        told = gathered(field, order)
        field.clear()
        order.clear()
        self.assertEqual(told, [(2, 3), (1, 1), (1, 2)])


if __name__ == "__main__":
    unittest.main()
