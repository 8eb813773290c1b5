import itertools
import random
import unittest

from helper import TEN, MeldCase, chance_field, chance_wishes, pair_by_words, small_fields
from stripmeld.costs import order_cost
from stripmeld.errors import Ringed
from stripmeld.strips import gathered
from stripmeld.table import best_order, cost_table, least_cost

ASKED = (cost_table, best_order, least_cost)
WIDE = [(1 + place * 7 % 10, 1 + place * 389 % 1000) for place in range(40)]
TWENTY = [(ahead, behind) for ahead in (1, 2, 3, 4) for behind in (10, 9, 8, 7, 6)]


def keeps(order, wishes):
    places = {holder: place for place, holder in enumerate(order)}
    return all(places[ahead] < places[behind] for ahead, behind in wishes if ahead in places and behind in places)


def pairs_by_words(field):
    holders = {holder for holder, _ in field}
    return {pair: pair_by_words(field, *pair) for pair in itertools.permutations(holders, 2)}


def orders_by_words(members, pairs, wishes):
    """Every order of these holders that keeps the wishes between them, as tuples (cost, order)."""
    return [(sum(pairs[pair] for pair in itertools.combinations(order, 2)), list(order))
            for order in itertools.permutations(members) if keeps(order, wishes)]


def set_at(holders, index):
    return [holder for place, holder in enumerate(holders) if index >> place & 1]


def table_by_words(field, wishes):
    pairs = pairs_by_words(field)
    holders = sorted({holder for holder, _ in field})
    return [min(orders_by_words(set_at(holders, index), pairs, wishes))[0] for index in range(2 ** len(holders))]


def best_by_words(field, wishes):
    holders = sorted({holder for holder, _ in field})
    return min(orders_by_words(holders, pairs_by_words(field), wishes))


class TableCase(MeldCase):
    def check_by_words(self, field, wishes):
        cost, order = best_by_words(field, wishes)
        self.assertEqual(self.ask(cost_table, field, wishes), table_by_words(field, wishes), (field, wishes))
        self.assertEqual(self.ask(best_order, field, wishes), order, (field, wishes))
        self.assertEqual(self.ask(least_cost, field, wishes), cost, (field, wishes))


class SmallTest(TableCase):
    def test_without_strips(self):
        for wishes in ([], [(1, 2)], [(1, 2), (2, 1)], TWENTY):
            self.assertEqual(self.ask(cost_table, [], wishes), [0])
            self.assertEqual(self.ask(best_order, [], wishes), [])
            self.assertEqual(self.ask(least_cost, [], wishes), 0)

    def test_one_holder(self):
        for field in ([(7, 3)], [(7, 1000)] * 40):
            for wishes in ([], [(7, 1), (1, 7)]):
                self.assertEqual(self.ask(cost_table, field, wishes), [0, 0])
                self.assertEqual(self.ask(best_order, field, wishes), [7])
                self.assertEqual(self.ask(least_cost, field, wishes), 0)

    def test_two_holders(self):
        field = [(4, 3), (2, 5), (4, 1)]
        self.assertEqual(self.ask(cost_table, field, []), [0, 0, 0, 5])
        self.assertEqual(self.ask(best_order, field, []), [4, 2])
        self.assertEqual(self.ask(least_cost, field, []), 5)
        self.assertEqual(self.ask(cost_table, field, [(2, 4)]), [0, 0, 0, 15])
        self.assertEqual(self.ask(best_order, field, [(2, 4)]), [2, 4])
        self.assertEqual(self.ask(least_cost, field, [(2, 4)]), 15)

    def test_reckoned_by_hand(self):
        # The pair costs: 1, 2: 8; 2, 1: 16; 1, 3: 31; 3, 1: 26; 2, 3: 104; 3, 2: 48.
        field = [(3, 9), (1, 2), (3, 4), (2, 8), (1, 1), (3, 6)]
        self.assertEqual(self.ask(cost_table, field, []), [0, 0, 0, 8, 0, 26, 48, 82])
        self.assertEqual(self.ask(best_order, field, []), [3, 1, 2])
        self.assertEqual(self.ask(least_cost, field, []), 82)
        self.assertEqual(self.ask(cost_table, field, [(2, 3)]), [0, 0, 0, 8, 0, 26, 104, 143])
        self.assertEqual(self.ask(best_order, field, [(2, 3)]), [1, 2, 3])
        self.assertEqual(self.ask(least_cost, field, [(2, 3)]), 143)
        self.assertEqual(self.ask(cost_table, field, [(2, 3), (3, 1)]), [0, 0, 0, 8, 0, 26, 104, 146])
        self.assertEqual(self.ask(best_order, field, [(2, 3), (3, 1)]), [2, 3, 1])

    def test_nothing_follows_through_a_holder_without_strips(self):
        field = [(3, 5), (1, 7)]
        self.assertEqual(self.ask(best_order, field, [(1, 2), (2, 3)]), [3, 1])
        self.assertEqual(self.ask(least_cost, field, [(1, 2), (2, 3)]), 0)
        self.assertEqual(self.ask(cost_table, field, [(1, 2), (2, 3)]), [0, 0, 0, 0])

    def test_in_a_set_only_the_wishes_between_its_holders_matter(self):
        field = [(3, 5), (2, 1), (1, 7)]
        self.assertEqual(self.ask(cost_table, field, [(1, 2), (2, 3)]), [0, 0, 0, 7, 0, 0, 5, 47])

    def test_every_small_field_against_all_orders(self):
        for wishes in ([], [(1, 3)], [(3, 2), (2, 1)], [(2, 1), (4, 2), (2, 3)]):
            for field in small_fields(5):
                self.check_by_words(field, wishes)


class SameCostTest(TableCase):
    def test_two_orders_cost_the_same(self):
        self.assertEqual(self.ask(best_order, [(1, 1), (2, 2), (1, 1)], []), [1, 2])
        self.assertEqual(self.ask(best_order, [(2, 1), (1, 2), (2, 1)], []), [1, 2])
        self.assertEqual(self.ask(best_order, [(2, 1), (1, 2), (2, 1)], [(2, 1)]), [2, 1])

    def test_all_orders_cost_the_same(self):
        field = [(3, 1), (2, 1), (1, 2), (2, 1), (3, 1)]
        self.assertEqual(self.ask(best_order, field, []), [1, 2, 3])
        self.assertEqual(self.ask(best_order, field, [(3, 1)]), [2, 3, 1])
        self.assertEqual(self.ask(best_order, field, [(3, 2)]), [1, 3, 2])
        self.assertEqual(self.ask(best_order, field, [(2, 1)]), [2, 1, 3])
        self.assertEqual(self.ask(best_order, field, [(3, 2), (3, 1)]), [3, 1, 2])

    def test_ten_holders_that_all_cost_the_same(self):
        field = [(holder, 1) for holder in TEN + TEN[::-1]]
        self.assertEqual(self.ask(best_order, field, []), TEN)
        self.assertEqual(self.ask(least_cost, field, []), 45 * 2)
        self.assertEqual(self.ask(best_order, field, [(10, 1)]), [2, 3, 4, 5, 6, 7, 8, 9, 10, 1])
        self.assertEqual(self.ask(best_order, field, TWENTY), TEN)
        turned = [(behind, ahead) for ahead, behind in TWENTY]
        self.assertEqual(self.ask(best_order, field, turned), [5, 6, 7, 8, 9, 10, 1, 2, 3, 4])

    def test_every_field_of_widths_of_one_against_all_orders(self):
        for many in range(6):
            for chosen in itertools.product((2, 5, 9), repeat=many):
                field = [(holder, 1) for holder in chosen]
                for wishes in ([], [(9, 2)], [(9, 5), (2, 5)]):
                    self.check_by_words(field, wishes)


class LargeTest(TableCase):
    def test_more_holders_against_all_orders(self):
        chance = random.Random(2)
        for number in range(120):
            holders = chance.sample(TEN, chance.randint(3, 5))
            field = chance_field(chance, holders, (2, 9, 1000)[number % 3])
            self.check_by_words(field, chance_wishes(chance, (0, 6, 20)[number % 3 - 1]))

    def test_seven_holders_against_all_orders(self):
        chance = random.Random(3)
        for number in range(3):
            field = chance_field(chance, chance.sample(TEN, 7), 3)
            self.check_by_words(field, chance_wishes(chance, (0, 5, 20)[number]))

    def test_ten_holders_with_forty_strips(self):
        pairs = pairs_by_words(WIDE)
        for wishes in ([], TWENTY, [(10, 1), (4, 2), (3, 9)]):
            table = self.ask(cost_table, WIDE, wishes)
            self.assertEqual(len(table), 1024)
            self.check_kinds(table, int)
            for index in range(1024):
                members = set_at(TEN, index)
                if len(members) < 6:
                    self.assertEqual(table[index], min(orders_by_words(members, pairs, wishes))[0])
            self.check_by_the_last(table, pairs, wishes)
            self.assertEqual(self.ask(least_cost, WIDE, wishes), table[1023])
            order = self.ask(best_order, WIDE, wishes)
            self.assertTrue(keeps(order, wishes))
            self.assertEqual(order_cost(WIDE, order), table[1023])

    def check_by_the_last(self, table, pairs, wishes):
        for index in range(1, 1024):
            members = set_at(TEN, index)
            sums = [table[index - 2 ** (last - 1)] + sum(pairs[other, last] for other in members if other != last)
                    for last in members if not any(ahead == last and behind in members for ahead, behind in wishes)]
            self.assertEqual(table[index], min(sums))

    def test_ten_holders_in_two_halves_that_never_meet(self):
        chance = random.Random(4)
        left = chance_field(chance, [2, 10, 3, 7, 5], 3)
        right = chance_field(chance, [1, 9, 4, 8, 6], 3)
        wishes = [(5, 10), (9, 4), (7, 1), (3, 4)]
        left_cost, left_order = best_by_words(left, wishes)
        right_cost, right_order = best_by_words(right, wishes)
        self.assertEqual(self.ask(best_order, left + right, wishes), left_order + right_order)
        self.assertEqual(self.ask(least_cost, left + right, wishes), left_cost + right_cost)

    def test_ten_holders_whose_wishes_leave_one_order(self):
        order = [3, 8, 1, 10, 5, 2, 9, 4, 7, 6]
        wishes = list(zip(order, order[1:])) + list(zip(order, order[2:]))
        self.assertEqual(self.ask(best_order, WIDE, wishes[::-1]), order)
        self.assertEqual(self.ask(least_cost, WIDE, wishes), order_cost(WIDE, order))

    def test_a_field_in_just_the_other_order(self):
        field = [(10 - place // 4, 1000) for place in range(40)]
        wishes = list(zip(TEN, TEN[1:]))
        self.assertEqual(self.ask(best_order, field, []), TEN[::-1])
        self.assertEqual(self.ask(least_cost, field, []), 0)
        self.assertEqual(self.ask(cost_table, field, []), [0] * 1024)
        self.assertEqual(self.ask(best_order, field, wishes), TEN)
        self.assertEqual(self.ask(least_cost, field, wishes), 45 * 16 * 1000 * 1000)

    def test_what_is_gathered_costs_nothing_more(self):
        for wishes in ([], TWENTY):
            order = best_order(WIDE, wishes)
            self.assertEqual(least_cost(gathered(WIDE, order), wishes), 0)
            self.assertEqual(best_order(gathered(WIDE, order), wishes), order)


class RingedTest(TableCase):
    def check_ring(self, field, wishes, members):
        for asked in ASKED:
            error = self.refuse(Ringed, asked, field, wishes)
            self.assertEqual(error.members, members)
            self.check_kinds(error.members, int)

    def test_rings_of_wishes_that_count(self):
        field = [(4, 1), (2, 1), (1, 1), (3, 1), (10, 1)]
        self.check_ring(field, [(1, 2), (2, 1)], [1, 2])
        self.check_ring(field, [(2, 1), (4, 2), (1, 4)], [1, 4, 2])
        self.check_ring(field, [(10, 4), (4, 3), (3, 2), (2, 1), (1, 10)], [1, 10, 4, 3, 2])
        self.check_ring(field, [(1, 2), (2, 3), (3, 1), (10, 4), (4, 10)], [4, 10])
        self.check_ring(field, [(2, 4), (4, 2), (3, 2), (2, 3)], [2, 3])

    def test_ten_holders_and_twenty_wishes(self):
        wishes = list(zip(TEN, TEN[1:])) + list(zip(TEN, TEN[2:])) + [(2, 5), (10, 8), (10, 1)]
        self.assertEqual(len(wishes), 20)
        self.check_ring(WIDE, wishes, [8, 10])
        self.check_ring(WIDE, list(zip(TEN, TEN[1:] + TEN[:1])), TEN)

    def test_a_ring_of_wishes_that_do_not_count_is_no_refusal(self):
        field = [(3, 2), (1, 5), (3, 1)]
        for wishes in ([(1, 2), (2, 1)], [(1, 2), (2, 3), (3, 1)], [(4, 5), (5, 4)], [(2, 3), (1, 3), (3, 2)]):
            self.check_by_words(field, wishes)
        self.assertEqual(self.ask(best_order, field, [(1, 2), (2, 3), (3, 1)]), [3, 1])
        self.assertEqual(self.ask(best_order, field, [(2, 3), (1, 3), (3, 2)]), [1, 3])

    def test_the_ring_of_fewer_holders_may_be_one_that_does_not_count(self):
        self.check_ring([(5, 1), (4, 1), (3, 1)], [(1, 3), (3, 1), (3, 4), (4, 5), (5, 3)], [3, 4, 5])

    def test_the_members_are_a_new_list(self):
        field = [(1, 1), (2, 1)]
        wishes = [(1, 2), (2, 1)]
        for asked in ASKED:
            self.refuse(Ringed, asked, field, wishes).members.append(3)
            error = self.refuse(Ringed, asked, field, wishes)
            self.assertEqual(error.members, [1, 2])
        wishes.clear()
        self.assertEqual(error.members, [1, 2])

    def test_a_refused_call_changes_nothing(self):
        field = [(2, 1), (1, 3), (2, 2)]
        for asked in ASKED:
            before = asked(field, [])
            self.refuse(Ringed, asked, field, [(1, 2), (2, 1)])
            self.assertEqual(asked(field, []), before)


class NewListsTest(TableCase):
    def test_kinds(self):
        for field in ([], [(2, 1)], [(2, 1), (1, 3), (2, 2)]):
            self.check_kinds(cost_table(field, []), int)
            self.check_kinds(best_order(field, []), int)
            self.assertIs(least_cost(field, []).__class__, int)

    def test_the_lists_are_new_ones(self):
        for field in ([], [(2, 1), (1, 3), (2, 2)]):
            for asked in (cost_table, best_order):
                told = self.ask(asked, field, [])
                kept = list(told)
                told.append(77)
                self.assertEqual(self.ask(asked, field, []), kept)

    def test_what_is_told_stays_when_the_lists_are_changed(self):
        for asked, expected in ((cost_table, [0, 0, 0, 6]), (best_order, [1, 2])):
            field = [(2, 2), (1, 3), (2, 1)]
            wishes = [(1, 2)]
            told = asked(field, wishes)
            field.clear()
            wishes.clear()
            self.assertEqual(told, expected)


if __name__ == "__main__":
    unittest.main()
