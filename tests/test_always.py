"""What always holds, over the whole program."""

import itertools
import random
import unittest

from helper import (
    TEN, MeldCase, chance_field, chance_wishes, is_melded_by_words, least_by_exchanges, small_fields, village_with,
)
from stripmeld.desk import answer
from stripmeld.errors import Ringed
from stripmeld.moves import walk_places
from stripmeld.stands import least_by_stands
from stripmeld.strips import lies_together
from stripmeld.table import best_order, cost_table, least_cost

WISHED = ([], [(1, 3)], [(2, 1)], [(3, 2), (2, 1)], [(2, 1), (4, 2), (2, 3)])
ROUND = ([(1, 2), (2, 1)], [(1, 2), (2, 3), (3, 1)], [(3, 2), (2, 4), (4, 3)], [(1, 3), (3, 2), (2, 1), (2, 3)])


def chance_villages(seed, many, most_strips):
    """Fields of many kinds with wishes that do not come round."""
    chance = random.Random(seed)
    for number in range(many):
        holders = chance.sample(TEN, chance.randint(1, (4, 7, 10)[number % 3]))
        field = chance_field(chance, holders, (1, 3, 1000)[number // 3 % 3])[:most_strips]
        yield field, chance_wishes(chance, (0, 8, 19)[number // 2 % 3])


def small_villages():
    for wishes in WISHED:
        for field in small_fields(4):
            yield field, wishes
        for many in range(6):
            for chosen in itertools.product((1, 2, 3), repeat=many):
                yield [(holder, 1) for holder in chosen], wishes


def turned_about(field, wishes):
    return field[::-1], [(behind, ahead) for ahead, behind in wishes]


class NothingIsCheaperTest(MeldCase):
    def check_least(self, field, wishes):
        cost = village_with(field, wishes).cost()
        self.assertEqual(cost, least_by_exchanges(field, wishes), (field, wishes))
        self.assertEqual(self.ask(least_by_stands, field, wishes), cost, (field, wishes))
        self.assertEqual(self.ask(least_cost, field, wishes), cost, (field, wishes))

    def test_small_fields_against_all_exchanges(self):
        for field, wishes in small_villages():
            if len(field) < 5:
                self.check_least(field, wishes)

    def test_up_to_seven_strips(self):
        for field, wishes in chance_villages(32, 40, 7):
            self.check_least(field, wishes)

    def test_larger_fields_against_many_other_ways(self):
        chance = random.Random(33)
        for field, wishes in chance_villages(34, 30, 40):
            cost = village_with(field, wishes).cost()
            for _ in range(15):
                numbers, spent = self.some_way(chance, field, wishes)
                self.assertTrue(is_melded_by_words([field[number - 1] for number in numbers], wishes))
                self.assertGreaterEqual(spent, cost)

    def some_way(self, chance, field, wishes):
        """Some exchanges that bring the strips side by side with the wishes kept, those of one holder mixed too."""
        order = []
        left = sorted({holder for holder, _ in field})
        while left:
            free = [holder for holder in left if not any((ahead, holder) in wishes for ahead in left)]
            order.append(chance.choice(free))
            left.remove(order[-1])
        mixed = chance.random() < 0.5
        ranks = {number: (order.index(field[number - 1][0]), chance.random() if mixed else number)
                 for number in range(1, len(field) + 1)}
        lying = sorted(ranks)
        places = []
        while lying != sorted(ranks, key=ranks.get):
            wrong = [place for place in range(1, len(lying)) if ranks[lying[place - 1]] > ranks[lying[place]]]
            place = chance.choice(wrong)
            places.append(place)
            lying[place - 1:place + 1] = [lying[place], lying[place - 1]]
        return walk_places(field, places)

    def test_the_told_exchanges_cost_what_is_told(self):
        for field, wishes in itertools.chain(small_villages(), chance_villages(35, 40, 40)):
            village = village_with(field, wishes)
            moves = village.moves()
            numbers, cost = walk_places(field, [place for place, _, _, _ in moves])
            lying = [field[number - 1] for number in numbers]
            self.assertEqual((lying, cost), (village.melded(), village.cost()))
            self.assertEqual(cost, sum(cost for _, _, _, cost in moves))
            self.assertEqual(cost, village.price(village.order()))
            self.assertTrue(is_melded_by_words(lying, wishes))
            self.assertEqual(village.broken(village.order()), [])


class NoExchangeTest(MeldCase):
    def test_who_needs_an_exchange(self):
        needed = 0
        for field, wishes in itertools.chain(small_villages(), chance_villages(36, 60, 40)):
            village = village_with(field, wishes)
            own = list(dict.fromkeys(holder for holder, _ in field))
            if is_melded_by_words(field, wishes):
                self.assertTrue(lies_together(field))
                self.assertEqual((village.order(), village.cost(), village.moves()), (own, 0, []))
                self.assertEqual(village.melded(), field)
            else:
                self.assertGreater(village.cost(), 0)
                self.assertNotEqual(village.moves(), [])
                needed += 1
        self.assertGreater(needed, 100)

    def test_what_is_melded_needs_none(self):
        for field, wishes in chance_villages(37, 40, 40):
            village = village_with(field, wishes)
            melded = village_with(village.melded(), wishes)
            self.assertEqual((melded.order(), melded.cost(), melded.moves()), (village.order(), 0, []))

    def test_ten_holders_that_lie_together(self):
        field = [(holder, 3) for holder in (10, 1, 9, 2, 8, 3, 7, 4, 6, 5) for _ in range(4)]
        village = village_with(field, [(10, 5), (1, 2), (9, 8)])
        self.assertEqual((village.cost(), village.order()), (0, [10, 1, 9, 2, 8, 3, 7, 4, 6, 5]))
        self.assertEqual(answer(village, "moves"), "none")
        village.wish(1, 10)
        self.assertEqual((village.cost(), len(village.moves())), (16 * 9, 16))


class TurnedAboutTest(MeldCase):
    def test_it_costs_as_much(self):
        for field, wishes in itertools.chain(small_villages(), chance_villages(38, 60, 40)):
            turned, turned_wishes = turned_about(field, wishes)
            self.assertEqual(least_cost(turned, turned_wishes), least_cost(field, wishes))
            self.assertEqual(cost_table(turned, turned_wishes), cost_table(field, wishes))
            if len(field) < 6:
                self.assertEqual(least_by_stands(turned, turned_wishes), least_by_stands(field, wishes))

    def test_wishes_that_come_round_come_round_there_too(self):
        rings = 0
        for wishes in ROUND:
            for field in small_fields(4, (1, 2, 3, 4)):
                village = village_with(field, wishes)
                turned = village_with(*turned_about(field, wishes))
                self.assertEqual(len(turned.ring()), len(village.ring()))
                if village.ring():
                    rings += 1
                    self.refuse(Ringed, village.cost)
                    self.refuse(Ringed, turned.cost)
                else:
                    self.assertEqual(turned.cost(), village.cost())
        self.assertGreater(rings, 100)


class PartedAndUnitedTest(MeldCase):
    def told(self, village):
        return (village.order(), village.cost(), village.table())

    def test_parting_and_uniting_change_nothing(self):
        chance = random.Random(39)
        done = {"part": 0, "unite": 0}
        for field, wishes in chance_villages(40, 40, 36):
            village = village_with(field, wishes)
            before = self.told(village)
            for _ in range(8):
                strips = village.strips()
                wide = [place for place, (_, width) in enumerate(strips, start=1) if width > 1]
                like = [place for place in range(1, len(strips)) if strips[place - 1][0] == strips[place][0]
                        and strips[place - 1][1] + strips[place][1] <= 1000]
                if like and chance.random() < 0.5:
                    village.unite(chance.choice(like))
                    done["unite"] += 1
                elif wide and len(strips) < 40:
                    place = chance.choice(wide)
                    village.part(place, chance.randint(1, strips[place - 1][1] - 1))
                    done["part"] += 1
                else:
                    break
                self.assertEqual(self.told(village), before)
        self.assertGreater(min(done.values()), 50)

    def test_every_part_of_a_small_field(self):
        field = [(2, 3), (1, 4), (2, 2), (3, 5), (1, 2)]
        for wishes in WISHED:
            village = village_with(field, wishes)
            before = self.told(village)
            for place, (_, width) in enumerate(field, start=1):
                for left in range(1, width):
                    village.part(place, left)
                    self.assertEqual(self.told(village), before)
                    self.assertEqual(least_by_stands(village.strips(), wishes), before[1])
                    village.unite(place)
                    self.assertEqual((village.strips(), self.told(village)), (field, before))
                    village.take_back()
                    village.take_back()


class StoppedTest(MeldCase):
    def places_and_costs(self, moves):
        return [(place, cost) for place, _, _, cost in moves]

    def check_stopped(self, field, wishes, stops):
        village = village_with(field, wishes)
        order, moves, cost = village.order(), village.moves(), village.cost()
        for many in stops(len(moves)):
            numbers, spent = walk_places(field, [place for place, _, _, _ in moves[:many]])
            stopped = village_with([field[number - 1] for number in numbers], wishes)
            self.assertEqual(stopped.order(), order)
            self.assertEqual(stopped.cost(), cost - spent)
            self.assertEqual(self.places_and_costs(stopped.moves()), self.places_and_costs(moves[many:]))

    def test_behind_each_exchange(self):
        for field, wishes in small_villages():
            self.check_stopped(field, wishes, lambda many: range(many + 1))

    def test_larger_fields(self):
        chance = random.Random(41)
        for field, wishes in chance_villages(42, 40, 40):
            self.check_stopped(field, wishes, lambda many: [0, chance.randint(0, many), many])

    def test_ten_holders_with_forty_strips(self):
        field = [(1 + place * 7 % 10, 1 + place * 389 % 1000) for place in range(40)]
        for wishes in ([], [(10, 1), (4, 2), (3, 9)]):
            self.check_stopped(field, wishes, lambda many: range(0, many + 1, 40))


class FurtherWishTest(MeldCase):
    def check_further_wish(self, field, wishes, further):
        order = best_order(field, wishes)
        cost = least_cost(field, wishes)
        village = village_with(field, wishes + [further])
        if further[0] in order and further[1] in order and order.index(further[0]) > order.index(further[1]):
            if village.ring():
                self.refuse(Ringed, village.cost)
            else:
                self.assertGreaterEqual(village.cost(), cost)
        else:
            self.assertEqual((village.order(), village.cost()), (order, cost))

    def test_small_fields(self):
        for field, wishes in small_villages():
            for further in itertools.permutations((1, 2, 3, 4), 2):
                if further not in wishes and len(field) < 5:
                    self.check_further_wish(field, wishes, further)

    def test_larger_fields(self):
        chance = random.Random(43)
        for field, wishes in chance_villages(44, 40, 40):
            others = [wish for wish in itertools.permutations(TEN, 2) if wish not in wishes]
            for further in chance.sample(others, 4):
                self.check_further_wish(field, wishes, further)

    def test_all_that_the_told_order_keeps(self):
        for field, wishes in chance_villages(45, 20, 40):
            village = village_with(field, wishes)
            order, cost = village.order(), village.cost()
            for further in itertools.combinations(order, 2):
                if further not in wishes and len(village.wishes()) < 20:
                    village.wish(*further)
                    self.assertEqual((village.order(), village.cost()), (order, cost))


if __name__ == "__main__":
    unittest.main()
