import itertools
import math
import random
import unittest

from helper import TEN, MeldCase, chance_wishes, costs_by_exchanges, least_by_exchanges, small_fields
from stripmeld.errors import Ringed, TooManyStands
from stripmeld.stands import SMALL, all_stands, least_by_stands
from stripmeld.table import least_cost

SEVEN = [(3, 9), (1, 2), (3, 4), (2, 8), (1, 1), (3, 6), (2, 1000)]
ROUND = [(1, 2), (2, 3), (3, 1)]


class AllStandsTest(MeldCase):
    def check_by_exchanges(self, field):
        stands = self.ask(all_stands, field)
        self.check_kinds(stands, tuple)
        self.assertEqual(stands, sorted(costs_by_exchanges(field).items()))

    def test_the_bound(self):
        self.assertEqual(SMALL, 7)

    def test_without_strips(self):
        self.assertEqual(self.ask(all_stands, []), [((), 0)])

    def test_one_strip(self):
        self.assertEqual(self.ask(all_stands, [(4, 1000)]), [((1,), 0)])

    def test_two_strips(self):
        self.assertEqual(self.ask(all_stands, [(1, 3), (2, 5)]), [((1, 2), 0), ((2, 1), 15)])
        self.assertEqual(self.ask(all_stands, [(6, 3), (6, 5)]), [((1, 2), 0), ((2, 1), 15)])

    def test_three_strips(self):
        self.assertEqual(self.ask(all_stands, [(1, 2), (1, 3), (2, 5)]), [
            ((1, 2, 3), 0), ((1, 3, 2), 15), ((2, 1, 3), 6), ((2, 3, 1), 16), ((3, 1, 2), 25), ((3, 2, 1), 31)])

    def test_each_stand_once_and_in_order(self):
        for many in range(8):
            stands = self.ask(all_stands, SEVEN[:many])
            self.assertEqual(len(stands), math.factorial(many))
            self.assertEqual([stand for stand, _ in stands], list(itertools.permutations(range(1, many + 1))))
            self.assertEqual(stands[0], (tuple(range(1, many + 1)), 0))

    def test_the_least_cost_of_each(self):
        for many in range(8):
            self.check_by_exchanges(SEVEN[:many])
            self.check_by_exchanges([(1, 1000)] * many)
        self.check_by_exchanges([(8, 64), (7, 32), (6, 16), (5, 8), (4, 4), (3, 2), (2, 1)])

    def test_every_small_field(self):
        for field in small_fields(4, (2, 10)):
            self.check_by_exchanges(field)

    def test_the_holders_do_not_matter(self):
        one = [(7, width) for _, width in SEVEN]
        self.assertEqual(self.ask(all_stands, one), self.ask(all_stands, SEVEN))

    def test_the_field_turned_about_costs_most(self):
        stand, cost = self.ask(all_stands, [(1, 1000)] * 7)[-1]
        self.assertEqual((stand, cost), ((7, 6, 5, 4, 3, 2, 1), 21 * 1000 * 1000))

    def test_kinds(self):
        for field in ([], [(1, 1)], SEVEN[:4]):
            for told in all_stands(field):
                self.assertEqual((told.__class__, len(told)), (tuple, 2))
                self.assertIs(told[0].__class__, tuple)
                self.check_kinds(list(told[0]), int)
                self.assertIs(told[1].__class__, int)

    def test_larger_fields_are_refused(self):
        for many in (8, 9, 39, 40):
            self.refuse(TooManyStands, all_stands, [(1 + place % 10, 5) for place in range(many)])
            self.refuse(TooManyStands, all_stands, [(1, 1)] * many)
        self.assertEqual(len(self.ask(all_stands, SEVEN)), 5040)

    def test_the_list_is_a_new_one(self):
        for field in ([], [(1, 3), (2, 5)]):
            told = all_stands(field)
            kept = list(told)
            told.append(((), 0))
            self.assertEqual(all_stands(field), kept)
            told = all_stands(field)
            field.append((1, 1))
            self.assertEqual(told, kept)


class LeastByStandsTest(MeldCase):
    def check_by_exchanges(self, field, wishes):
        cost = self.ask(least_by_stands, field, wishes)
        self.assertIs(cost.__class__, int)
        self.assertEqual(cost, least_by_exchanges(field, wishes), (field, wishes))
        self.assertEqual(cost, least_cost(field, wishes), (field, wishes))

    def test_without_strips(self):
        for wishes in ([], [(1, 2)], ROUND):
            self.assertEqual(self.ask(least_by_stands, [], wishes), 0)

    def test_one_holder(self):
        for many in range(1, 8):
            self.assertEqual(self.ask(least_by_stands, [(4, 3)] * many, [(4, 1), (1, 4)]), 0)

    def test_reckoned_by_hand(self):
        self.assertEqual(self.ask(least_by_stands, [(4, 3), (2, 5), (4, 1)], []), 5)
        self.assertEqual(self.ask(least_by_stands, [(4, 3), (2, 5), (4, 1)], [(2, 4)]), 15)
        self.assertEqual(self.ask(least_by_stands, [(4, 3), (2, 5), (4, 1)], [(4, 2)]), 5)
        self.assertEqual(self.ask(least_by_stands, SEVEN[:6], []), 82)
        self.assertEqual(self.ask(least_by_stands, SEVEN[:6], [(2, 3)]), 143)
        self.assertEqual(self.ask(least_by_stands, SEVEN[:6], [(2, 3), (3, 1)]), 146)

    def test_wishes_that_do_not_count(self):
        field = [(3, 5), (1, 7)]
        for wishes in ([(1, 2), (2, 3)], [(1, 2), (2, 1)], ROUND[:2] + [(4, 5), (5, 4)]):
            self.assertEqual(self.ask(least_by_stands, field, wishes), 0)
        self.assertEqual(self.ask(least_by_stands, field, [(1, 2), (1, 3), (2, 1)]), 35)

    def test_every_small_field(self):
        for wishes in ([], [(1, 3)], [(3, 2), (2, 1)], [(2, 1), (4, 2), (2, 3)]):
            for field in small_fields(4):
                self.check_by_exchanges(field, wishes)

    def test_up_to_seven_strips(self):
        chance = random.Random(16)
        for number in range(60):
            many = (5, 6, 5, 7, 5, 6)[number % 6]
            holders = chance.sample(TEN, chance.randint(2, many))
            field = [(chance.choice(holders), chance.choice((1, 2, 3, 1000))) for _ in range(many)]
            self.check_by_exchanges(field, chance_wishes(chance, 20))

    def test_seven_strips_of_seven_holders(self):
        field = [(holder, 10 - holder) for holder in (7, 6, 5, 4, 3, 2, 1)]
        self.assertEqual(self.ask(least_by_stands, field, []), 0)
        wishes = list(zip(TEN, TEN[1:]))
        self.assertEqual(self.ask(least_by_stands, field, wishes), least_cost(field, wishes))

    def test_larger_fields_are_refused(self):
        for many in (8, 9, 40):
            for holders in (1, 2, 10):
                field = [(1 + place % holders, 5) for place in range(many)]
                self.refuse(TooManyStands, least_by_stands, field, [])

    def test_too_many_strips_are_refused_ahead_of_a_ring(self):
        field = SEVEN + [(2, 1)]
        self.refuse(TooManyStands, least_by_stands, field, ROUND)
        self.assertEqual(self.refuse(Ringed, least_by_stands, field[:7], ROUND).members, [1, 2, 3])

    def test_a_ring_is_refused(self):
        field = [(4, 1), (2, 1), (1, 1), (3, 1), (10, 1)]
        for wishes, members in (
                ([(1, 2), (2, 1)], [1, 2]),
                ([(2, 1), (4, 2), (1, 4)], [1, 4, 2]),
                ([(1, 2), (2, 3), (3, 1), (10, 4), (4, 10)], [4, 10]),
                ([(5, 6), (6, 5), (2, 4), (4, 2), (3, 2), (2, 3)], [2, 3])):
            error = self.refuse(Ringed, least_by_stands, field, wishes)
            self.assertEqual(error.members, members)
            self.check_kinds(error.members, int)
            error.members.append(9)
            self.assertEqual(self.refuse(Ringed, least_by_stands, field, wishes).members, members)

    def test_a_refused_call_changes_nothing(self):
        before = least_by_stands(SEVEN, [(1, 2)])
        self.refuse(Ringed, least_by_stands, SEVEN, ROUND)
        self.refuse(TooManyStands, least_by_stands, SEVEN * 2, [])
        self.assertEqual(least_by_stands(SEVEN, [(1, 2)]), before)


if __name__ == "__main__":
    unittest.main()
