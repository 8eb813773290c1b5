import itertools
import random
import unittest

from helper import MeldCase
from stripmeld import wishes as wishes_file
from stripmeld.wishes import broken_wishes, counted_wishes, find_ring

TWENTY = [(ahead, behind) for ahead in range(1, 5) for behind in range(10, 5, -1)]


def rings_by_words(holders, wishes):
    """Every ring among the holders, told from its least holder on."""
    between = [(ahead, behind) for ahead, behind in wishes if ahead in holders and behind in holders]
    paths = [[holder] for holder in holders]
    rings = []
    while paths:
        rings += [path for path in paths if len(path) > 1 and (path[-1], path[0]) in between]
        paths = [path + [behind] for path in paths for ahead, behind in between
                 if ahead == path[-1] and behind > path[0] and behind not in path]
    return rings


def ring_by_words(holders, wishes):
    return min(rings_by_words(holders, wishes), key=lambda ring: (len(ring), ring), default=[])


class BoundsTest(unittest.TestCase):
    def test_bounds(self):
        self.assertEqual(wishes_file.MOST_WISHES, 20)


class CountedWishesTest(MeldCase):
    def test_no_strips_or_no_wishes(self):
        self.assertEqual(self.ask(counted_wishes, [], []), [])
        self.assertEqual(self.ask(counted_wishes, [], [(1, 2), (2, 1)]), [])
        self.assertEqual(self.ask(counted_wishes, [(1, 5), (2, 5)], []), [])

    def test_one_holder(self):
        self.assertEqual(self.ask(counted_wishes, [(1, 5)], [(1, 2), (2, 1), (3, 4)]), [])

    def test_some_count_and_some_do_not(self):
        field = [(3, 9), (1, 2), (3, 4), (10, 8)]
        wishes = [(3, 10), (2, 3), (10, 1), (1, 2), (1, 3), (4, 5), (10, 9)]
        self.assertEqual(self.ask(counted_wishes, field, wishes), [(3, 10), (10, 1), (1, 3)])

    def test_nothing_follows_through_a_holder_without_strips(self):
        self.assertEqual(self.ask(counted_wishes, [(3, 1), (1, 1)], [(1, 2), (2, 3)]), [])

    def test_in_the_order_of_the_list(self):
        field = [(1, 1), (2, 1), (3, 1)]
        wishes = [(ahead, behind) for ahead in (1, 2, 3) for behind in (1, 2, 3) if ahead != behind]
        for chosen in itertools.permutations(wishes, 3):
            self.assertEqual(self.ask(counted_wishes, field, list(chosen)), list(chosen))

    def test_both_ways_about(self):
        self.assertEqual(self.ask(counted_wishes, [(1, 1), (2, 1)], [(2, 1), (1, 2)]), [(2, 1), (1, 2)])

    def test_twenty_wishes(self):
        field = [(holder, 7) for holder in range(1, 11)]
        self.assertEqual(len(TWENTY), 20)
        self.assertEqual(self.ask(counted_wishes, field, TWENTY), TWENTY)
        self.assertEqual(self.ask(counted_wishes, field[:8], TWENTY), [wish for wish in TWENTY if wish[1] <= 8])

    def test_every_set_of_holders_by_the_documents_words(self):
        wishes = list(itertools.permutations((1, 2, 3, 4), 2))
        for many in range(5):
            for holders in itertools.combinations((4, 3, 2, 1), many):
                field = [(holder, 2) for holder in holders]
                expected = [(ahead, behind) for ahead, behind in wishes if {ahead, behind} <= set(holders)]
                self.assertEqual(self.ask(counted_wishes, field, wishes), expected)

    def test_the_list_is_a_new_one(self):
        field = [(1, 1), (2, 1)]
        wishes = [(1, 2)]
        told = counted_wishes(field, wishes)
        self.check_kinds(told, tuple)
        told.append((2, 1))
        self.assertEqual(wishes, [(1, 2)])
        self.assertEqual(counted_wishes(field, wishes), [(1, 2)])
        told = counted_wishes(field, wishes)
        field.clear()
        wishes.clear()
        self.assertEqual(told, [(1, 2)])
        counted_wishes(field, wishes).append((1, 2))
        self.assertEqual(wishes, [])


class BrokenWishesTest(MeldCase):
    def test_no_order_or_no_wishes(self):
        self.assertEqual(self.ask(broken_wishes, [], []), [])
        self.assertEqual(self.ask(broken_wishes, [], [(1, 2), (2, 1)]), [])
        self.assertEqual(self.ask(broken_wishes, [3, 1, 2], []), [])

    def test_kept_and_broken(self):
        wishes = [(2, 3), (1, 3), (3, 2), (1, 2)]
        self.assertEqual(self.ask(broken_wishes, [1, 2, 3], wishes), [(3, 2)])
        self.assertEqual(self.ask(broken_wishes, [3, 2, 1], wishes), [(2, 3), (1, 3), (1, 2)])
        self.assertEqual(self.ask(broken_wishes, [1, 2, 3], [(1, 2), (2, 3), (1, 3)]), [])

    def test_the_two_need_not_be_neighbours(self):
        self.assertEqual(self.ask(broken_wishes, [9, 4, 7, 2], [(2, 9), (9, 2)]), [(2, 9)])

    def test_holders_that_stand_not_in_the_order(self):
        self.assertEqual(self.ask(broken_wishes, [3, 1], [(1, 2), (2, 3)]), [])
        self.assertEqual(self.ask(broken_wishes, [1], [(1, 2), (2, 1)]), [])
        self.assertEqual(self.ask(broken_wishes, [2, 1], [(1, 3), (1, 2), (3, 2)]), [(1, 2)])

    def test_both_ways_about_one_is_broken(self):
        self.assertEqual(self.ask(broken_wishes, [1, 2], [(1, 2), (2, 1)]), [(2, 1)])
        self.assertEqual(self.ask(broken_wishes, [2, 1], [(1, 2), (2, 1)]), [(1, 2)])

    def test_twenty_wishes_of_ten_holders(self):
        order = list(range(1, 11))
        self.assertEqual(self.ask(broken_wishes, order, TWENTY), [])
        self.assertEqual(self.ask(broken_wishes, order[::-1], TWENTY), TWENTY)

    def test_every_order_by_the_documents_words(self):
        wishes = list(itertools.permutations((1, 2, 3, 4), 2))[::-1]
        for many in range(5):
            for order in itertools.permutations((1, 2, 3, 4), many):
                expected = [wish for wish in wishes if wish[::-1] in itertools.combinations(order, 2)]
                self.assertEqual(self.ask(broken_wishes, list(order), wishes), expected)

    def test_the_list_is_a_new_one(self):
        order = [2, 1]
        wishes = [(1, 2)]
        told = broken_wishes(order, wishes)
        self.check_kinds(told, tuple)
        told.append((3, 4))
        self.assertEqual(wishes, [(1, 2)])
        self.assertEqual(broken_wishes(order, wishes), [(1, 2)])
        told = broken_wishes(order, wishes)
        order.clear()
        wishes.clear()
        self.assertEqual(told, [(1, 2)])
        broken_wishes(order, wishes).append((1, 2))
        self.assertEqual((order, wishes), ([], []))


class FindRingTest(MeldCase):
    def test_no_ring(self):
        self.assertEqual(self.ask(find_ring, [], []), [])
        self.assertEqual(self.ask(find_ring, [], [(1, 2), (2, 1)]), [])
        self.assertEqual(self.ask(find_ring, [1, 2, 3], []), [])
        self.assertEqual(self.ask(find_ring, [1], [(1, 2), (2, 1)]), [])
        self.assertEqual(self.ask(find_ring, [3, 1, 2], [(1, 2), (2, 3), (1, 3)]), [])
        self.assertEqual(self.ask(find_ring, list(range(1, 11)), TWENTY), [])

    def test_two_holders(self):
        self.assertEqual(self.ask(find_ring, [1, 2], [(1, 2), (2, 1)]), [1, 2])
        self.assertEqual(self.ask(find_ring, [2, 1], [(2, 1), (1, 2)]), [1, 2])
        self.assertEqual(self.ask(find_ring, [10, 7, 9], [(10, 7), (9, 10), (7, 10)]), [7, 10])

    def test_three_holders_from_the_least_on(self):
        for holders in itertools.permutations((1, 2, 4)):
            self.assertEqual(self.ask(find_ring, list(holders), [(4, 2), (2, 1), (1, 4)]), [1, 4, 2])
            self.assertEqual(self.ask(find_ring, list(holders), [(4, 1), (1, 2), (2, 4)]), [1, 2, 4])

    def test_ten_holders(self):
        around = [3, 8, 1, 10, 5, 2, 9, 4, 7, 6]
        wishes = list(zip(around, around[1:] + around[:1]))
        self.assertEqual(self.ask(find_ring, around, wishes), [1, 10, 5, 2, 9, 4, 7, 6, 3, 8])
        self.assertEqual(self.ask(find_ring, around, wishes[:-1]), [])

    def test_a_way_into_the_ring_is_no_part_of_it(self):
        wishes = [(1, 2), (2, 5), (5, 4), (4, 5), (4, 3)]
        self.assertEqual(self.ask(find_ring, [1, 2, 3, 4, 5], wishes), [4, 5])

    def test_the_fewest_holders_come_ahead_of_lesser_numbers(self):
        wishes = [(1, 2), (2, 3), (3, 1), (9, 8), (8, 9)]
        self.assertEqual(self.ask(find_ring, [1, 2, 3, 8, 9], wishes), [8, 9])
        wishes = [(1, 2), (2, 3), (3, 4), (4, 1), (4, 5), (5, 3)]
        self.assertEqual(self.ask(find_ring, [5, 4, 3, 2, 1], wishes), [3, 4, 5])

    def test_several_with_the_fewest_holders(self):
        wishes = [(5, 6), (6, 5), (2, 9), (9, 2), (2, 7), (7, 2)]
        self.assertEqual(self.ask(find_ring, [9, 7, 6, 5, 2], wishes), [2, 7])
        wishes = [(1, 4), (4, 2), (2, 1), (1, 3), (3, 5), (5, 1)]
        self.assertEqual(self.ask(find_ring, [5, 4, 3, 2, 1], wishes), [1, 3, 5])
        wishes = [(1, 4), (4, 3), (3, 1), (4, 2), (2, 1)]
        self.assertEqual(self.ask(find_ring, [4, 3, 2, 1], wishes), [1, 4, 2])
        wishes = [(1, 2), (2, 6), (6, 1), (1, 3), (3, 4), (4, 1)]
        self.assertEqual(self.ask(find_ring, [1, 2, 3, 4, 6], wishes), [1, 2, 6])
        wishes = [(1, 2), (2, 9), (9, 5), (5, 1), (1, 3), (3, 4), (4, 5)]
        self.assertEqual(self.ask(find_ring, [1, 2, 3, 4, 5, 9], wishes), [1, 2, 9, 5])

    def test_a_ring_with_a_holder_that_is_not_handed_in(self):
        wishes = [(1, 2), (2, 3), (3, 1)]
        for holders in ([1, 2], [2, 3], [3, 1], [1, 2, 4]):
            self.assertEqual(self.ask(find_ring, holders, wishes), [])
        wishes = [(1, 2), (2, 1), (3, 4), (4, 5), (5, 3)]
        self.assertEqual(self.ask(find_ring, [5, 4, 3, 2], wishes), [3, 4, 5])

    def test_twenty_wishes(self):
        wishes = list(itertools.permutations((10, 8, 6, 4, 2), 2))
        self.assertEqual(len(wishes), 20)
        self.assertEqual(self.ask(find_ring, list(range(10, 0, -1)), wishes), [2, 4])
        self.assertEqual(self.ask(find_ring, [10, 8, 6], wishes), [6, 8])

    def test_more_wishes_are_not_refused(self):
        wishes = list(itertools.permutations(range(1, 11), 2))
        holders = list(range(1, 11))
        self.assertEqual(self.ask(find_ring, holders, wishes), [1, 2])
        self.assertEqual(self.ask(broken_wishes, holders, wishes), [wish for wish in wishes if wish[1] < wish[0]])
        self.assertEqual(self.ask(counted_wishes, [(holder, 1) for holder in holders], wishes), wishes)

    def test_every_list_of_wishes_of_four_holders_by_the_documents_words(self):
        between = list(itertools.permutations((2, 5, 9, 10), 2))
        for number in range(2 ** len(between)):
            wishes = [wish for place, wish in enumerate(between) if number >> place & 1]
            self.assertEqual(find_ring([9, 2, 10, 5], wishes), ring_by_words([9, 2, 10, 5], wishes), wishes)

    def test_many_holders_by_the_documents_words(self):
        chance = random.Random(1)
        lengths = {}
        for _ in range(3000):
            holders = chance.sample(range(1, 11), chance.randint(5, 10))
            between = list(itertools.permutations(range(1, 11), 2))
            if chance.randint(0, 2):
                between = [(ahead, behind) for ahead, behind in between if behind - ahead in (1, 2, -3, -4)]
            wishes = chance.sample(between, min(len(between), chance.randint(8, 20)))
            told = self.ask(find_ring, holders, wishes)
            self.assertEqual(told, ring_by_words(holders, wishes), (holders, wishes))
            lengths[len(told)] = True
        self.assertLessEqual({0, 2, 3, 4, 5}, set(lengths))

    def test_the_list_is_a_new_one(self):
        holders = [2, 1]
        wishes = [(1, 2), (2, 1)]
        told = find_ring(holders, wishes)
        self.check_kinds(told, int)
        told.append(3)
        self.assertEqual(find_ring(holders, wishes), [1, 2])
        told = find_ring(holders, wishes)
        holders.clear()
        wishes.clear()
        self.assertEqual(told, [1, 2])
        find_ring(holders, wishes).append(1)
        self.assertEqual(find_ring(holders, wishes), [])
        self.assertEqual((holders, wishes), ([], []))


if __name__ == "__main__":
    unittest.main()
