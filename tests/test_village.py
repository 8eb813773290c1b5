import itertools
import random
import unittest

from helper import HUGE, TEN, MeldCase, full_village, told_of, village_with, wrong_orders
from stripmeld.costs import order_cost
from stripmeld.errors import (
    BadHolder, BadOrder, BadPart, BadWidth, BookFull, LikeHolders, NoStrip, NoSuchDeed, NothingDone, NoWish, OwnStrip,
    Ringed, TooManyStrips, TooManyWishes, TooWide, UnlikeHolders, WishStands,
)
from stripmeld.moves import told_moves
from stripmeld.strips import gathered, holders_of
from stripmeld.table import best_order, cost_table, least_cost
from stripmeld.village import MOST_DEEDS, Village
from stripmeld.wishes import broken_wishes, find_ring

FIELD = [(3, 9), (1, 2), (3, 4), (2, 8), (1, 1), (3, 6)]
FORTY = [(1 + place * 7 % 10, 1 + place * 389 % 1000) for place in range(40)]
TWENTY = [(ahead, behind) for ahead in (1, 2, 3, 4) for behind in (10, 9, 8, 7, 6)]
OFF = (-HUGE, -41, -2, -1, 0, 41, 42, 1001, HUGE)


class VillageCase(MeldCase):
    def refused(self, error, village, called, *handed):
        """The call must be refused with that class, and all that the village tells must stay."""
        before = told_of(village)
        raised = self.refuse(error, called, *handed)
        self.assertEqual(told_of(village), before)
        return raised

    def check(self, village, strips, wishes, deeds):
        self.assertEqual((village.strips(), village.wishes(), village.deeds()), (strips, wishes, deeds))
        self.assertEqual(village.stood(len(deeds)), (strips, wishes))


class BeginningTest(VillageCase):
    def test_the_bound(self):
        self.assertEqual(MOST_DEEDS, 100)

    def test_a_village_begins_with_its_field(self):
        for field in ([], [(1, 1)], [(10, 1000)], FIELD, FORTY, [(5, 7)] * 40):
            self.check(self.ask(Village, field), field, [], [])

    def test_a_bad_field_is_refused(self):
        self.refuse(TooManyStrips, Village, [(1, 1)] * 41)
        self.refuse(TooManyStrips, Village, [(0, 0)] * 41)
        self.refuse(TooManyStrips, Village, [(11, 1001)] * 100)
        for number, holder in enumerate((-HUGE, -1, 0, 11, HUGE)):
            with self.subTest(number=number):
                self.refuse(BadHolder, Village, [(1, 1), (holder, 5)])
                self.refuse(BadHolder, Village, [(holder, 0)])
                self.refuse(BadHolder, Village, [(holder, 5), (1, 0)])
        for number, width in enumerate((-HUGE, -1, 0, 1001, HUGE)):
            with self.subTest(number=number):
                self.refuse(BadWidth, Village, [(1, 1), (2, width)])
                self.refuse(BadWidth, Village, [(1, width), (0, 5)])

    def test_kinds(self):
        village = Village(FIELD)
        village.wish(2, 1)
        village.unite(village.part(4, 3) + 2)
        for told in (village.strips(), village.wishes(), village.deeds()):
            self.check_kinds(told, tuple)
        for deed in village.deeds():
            self.assertIs(deed[0].__class__, str)
            self.check_kinds(list(deed[1:]), int)
        self.assertEqual(village.deeds(), [("wish", 2, 1), ("part", 4, 3), ("unite", 4)])


class SellTest(VillageCase):
    def test_a_sale(self):
        village = Village(FIELD)
        self.assertEqual(village.sell(3, 2), 1)
        self.check(village, [(3, 9), (1, 2), (2, 4), (2, 8), (1, 1), (3, 6)], [], [("sell", 3, 2)])
        self.assertEqual(village.sell(1, 10), 2)
        self.assertEqual(village.sell(6, 1), 3)
        self.check(village, [(10, 9), (1, 2), (2, 4), (2, 8), (1, 1), (1, 6)], [],
                   [("sell", 3, 2), ("sell", 1, 10), ("sell", 6, 1)])

    def test_there_and_back_are_two_deeds(self):
        village = Village([(4, 7)])
        self.assertEqual((village.sell(1, 5), village.sell(1, 4)), (1, 2))
        self.check(village, [(4, 7)], [], [("sell", 1, 5), ("sell", 1, 4)])

    def test_every_place_and_holder(self):
        for place, holder in itertools.product(range(1, 7), TEN):
            village = Village(FIELD)
            if FIELD[place - 1][0] == holder:
                self.refused(OwnStrip, village, village.sell, place, holder)
            else:
                self.assertEqual(village.sell(place, holder), 1)
                changed = list(FIELD)
                changed[place - 1] = (holder, FIELD[place - 1][1])
                self.check(village, changed, [], [("sell", place, holder)])

    def test_no_such_place(self):
        for field in ([], [(3, 1)], FIELD):
            village = Village(field)
            for number, place in enumerate(OFF + (len(field) + 1, -len(field))):
                with self.subTest(field, number=number):
                    for holder in (3, 2, 0, 11, -1, HUGE):
                        self.refused(NoStrip, village, village.sell, place, holder)

    def test_bad_holders(self):
        village = Village(FIELD)
        for number, holder in enumerate((-HUGE, -3, -1, 0, 11, HUGE)):
            with self.subTest(number=number):
                self.refused(BadHolder, village, village.sell, 1, holder)
                self.refused(BadHolder, village, village.sell, 6, holder)

    def test_the_own_strip(self):
        village = Village(FIELD)
        self.refused(OwnStrip, village, village.sell, 1, 3)
        village.sell(1, 4)
        self.refused(OwnStrip, village, village.sell, 1, 4)


class PartTest(VillageCase):
    def test_a_strip_is_parted(self):
        village = Village(FIELD)
        self.assertEqual(village.part(1, 2), 1)
        self.check(village, [(3, 2), (3, 7)] + FIELD[1:], [], [("part", 1, 2)])
        self.assertEqual(village.part(7, 5), 2)
        self.check(village, [(3, 2), (3, 7)] + FIELD[1:5] + [(3, 5), (3, 1)], [], [("part", 1, 2), ("part", 7, 5)])

    def test_every_width(self):
        for width in range(-2, 12):
            village = Village([(1, 3), (4, 9), (2, 20)])
            if 1 <= width <= 8:
                self.assertEqual(village.part(2, width), 1)
                self.check(village, [(1, 3), (4, width), (4, 9 - width), (2, 20)], [], [("part", 2, width)])
            else:
                self.refused(BadPart, village, village.part, 2, width)

    def test_the_widest_and_the_narrowest(self):
        village = Village([(1, 1000), (2, 1), (3, 2)])
        for number, width in enumerate((-HUGE, -1, 0, 1, 2, HUGE)):
            with self.subTest(number=number):
                self.refused(BadPart, village, village.part, 2, width)
        self.refused(BadPart, village, village.part, 1, 1000)
        self.assertEqual(village.part(3, 1), 1)
        self.assertEqual(village.part(1, 999), 2)
        self.check(village, [(1, 999), (1, 1), (2, 1), (3, 1), (3, 1)], [], [("part", 3, 1), ("part", 1, 999)])

    def test_no_such_place(self):
        for field in ([], [(3, 1)], FIELD, [(1, 5)] * 40):
            village = Village(field)
            for number, place in enumerate(OFF + (len(field) + 1, -len(field))):
                with self.subTest(field, number=number):
                    for width in (1, 0, -HUGE, HUGE):
                        self.refused(NoStrip, village, village.part, place, width)

    def test_forty_strips(self):
        village = Village([(1, 5)] * 39)
        self.assertEqual(village.part(39, 4), 1)
        self.assertEqual(village.strips(), [(1, 5)] * 38 + [(1, 4), (1, 1)])
        self.refused(TooManyStrips, village, village.part, 1, 1)
        self.refused(TooManyStrips, village, village.part, 38, 4)
        self.refused(BadPart, village, village.part, 1, 5)
        self.refused(BadPart, village, village.part, 40, 1)
        self.refused(NoStrip, village, village.part, 41, 1)
        village.unite(1)
        self.assertEqual(village.part(2, 1), 3)


class UniteTest(VillageCase):
    def test_two_strips_become_one(self):
        village = Village([(3, 9), (3, 2), (1, 4), (1, 8), (1, 1)])
        self.assertEqual(village.unite(4), 1)
        self.check(village, [(3, 9), (3, 2), (1, 4), (1, 9)], [], [("unite", 4)])
        self.assertEqual(village.unite(1), 2)
        self.check(village, [(3, 11), (1, 4), (1, 9)], [], [("unite", 4), ("unite", 1)])
        self.assertEqual(village.unite(2), 3)
        self.check(village, [(3, 11), (1, 13)], [], [("unite", 4), ("unite", 1), ("unite", 2)])
        self.refused(UnlikeHolders, village, village.unite, 1)

    def test_no_such_place_or_no_neighbour(self):
        for field in ([], [(3, 1)], [(3, 1), (3, 2)], FIELD, [(1, 5)] * 40):
            village = Village(field)
            for number, place in enumerate(OFF + (len(field), len(field) + 1, -len(field))):
                with self.subTest(field, number=number):
                    self.refused(NoStrip, village, village.unite, place)

    def test_unlike_holders(self):
        village = Village(FIELD)
        for place in range(1, 6):
            self.refused(UnlikeHolders, village, village.unite, place)

    def test_too_wide(self):
        village = Village([(1, 500), (1, 501), (1, 500), (1, 500), (2, 1000), (3, 1000), (3, 1), (3, 999)])
        self.refused(TooWide, village, village.unite, 1)
        self.refused(TooWide, village, village.unite, 2)
        self.refused(TooWide, village, village.unite, 6)
        self.refused(UnlikeHolders, village, village.unite, 4)
        self.refused(UnlikeHolders, village, village.unite, 5)
        self.assertEqual(village.unite(3), 1)
        self.assertEqual(village.unite(6), 2)
        self.assertEqual(village.strips(), [(1, 500), (1, 501), (1, 1000), (2, 1000), (3, 1000), (3, 1000)])
        self.refused(TooWide, village, village.unite, 5)


class WishTest(VillageCase):
    def test_wishes_come_behind_the_others(self):
        village = Village(FIELD)
        self.assertEqual((village.wish(3, 1), village.wish(1, 3), village.wish(10, 2)), (1, 2, 3))
        wishes = [(3, 1), (1, 3), (10, 2)]
        self.check(village, FIELD, wishes, [("wish",) + wish for wish in wishes])

    def test_every_two_numbers(self):
        for ahead, behind in itertools.product(range(-1, 13), repeat=2):
            village = Village([])
            if not (1 <= ahead <= 10 and 1 <= behind <= 10):
                self.refused(BadHolder, village, village.wish, ahead, behind)
            elif ahead == behind:
                self.refused(LikeHolders, village, village.wish, ahead, behind)
            else:
                self.assertEqual(village.wish(ahead, behind), 1)
                self.check(village, [], [(ahead, behind)], [("wish", ahead, behind)])
                self.refused(WishStands, village, village.wish, ahead, behind)
                self.assertEqual(village.wish(behind, ahead), 2)

    def test_bad_holders(self):
        village = village_with(FIELD, TWENTY)
        for number, bad in enumerate((-HUGE, -1, 0, 11, HUGE)):
            with self.subTest(number=number):
                self.refused(BadHolder, village, village.wish, bad, 1)
                self.refused(BadHolder, village, village.wish, 1, bad)
                self.refused(BadHolder, village, village.wish, bad, bad)

    def test_twenty_wishes(self):
        village = village_with([], TWENTY[:19])
        self.assertEqual(village.wish(*TWENTY[19]), 20)
        self.assertEqual(village.wishes(), TWENTY)
        self.refused(TooManyWishes, village, village.wish, 1, 2)
        self.refused(TooManyWishes, village, village.wish, 6, 4)
        self.refused(WishStands, village, village.wish, 1, 10)
        self.refused(WishStands, village, village.wish, 4, 6)
        self.refused(LikeHolders, village, village.wish, 1, 1)
        village.drop(1, 10)
        self.assertEqual(village.wish(1, 10), 22)
        self.assertEqual(village.wishes(), TWENTY[1:] + TWENTY[:1])


class DropTest(VillageCase):
    def test_the_others_keep_their_order(self):
        wishes = [(3, 1), (1, 3), (10, 2), (2, 10), (5, 6)]
        for dropped in wishes:
            village = village_with(FIELD, wishes)
            self.assertEqual(village.drop(*dropped), 6)
            left = [wish for wish in wishes if wish != dropped]
            self.check(village, FIELD, left, [("wish",) + wish for wish in wishes] + [("drop",) + dropped])
            self.refused(NoWish, village, village.drop, *dropped)
            self.assertEqual(village.wish(*dropped), 7)
            self.assertEqual(village.wishes(), left + [dropped])

    def test_a_wish_that_does_not_stand(self):
        village = village_with([], [(1, 2), (2, 3)])
        for number, (ahead, behind) in enumerate(itertools.product(OFF + (1, 2, 3, 10, 11), repeat=2)):
            if (ahead, behind) not in ((1, 2), (2, 3)):
                with self.subTest(number=number):
                    self.refused(NoWish, village, village.drop, ahead, behind)
        village = Village([])
        self.refused(NoWish, village, village.drop, 1, 2)


class BookTest(VillageCase):
    def all_deeds(self, village):
        numbers = (-HUGE, -1, 0, 1, 2, 3, 11, 41, HUGE)
        for called in (village.sell, village.part, village.wish, village.drop):
            for handed in itertools.product(numbers, repeat=2):
                yield (called,) + handed
        for place in numbers:
            yield village.unite, place

    def test_a_hundred_deeds(self):
        for field in ([], [(1, 1000), (1, 1000), (2, 2)], [(5, 7)] * 40):
            village = full_village(field)
            self.assertEqual(village.deeds(), [("wish", 9, 8), ("drop", 9, 8)] * 50)
            before = told_of(village)
            for called, *handed in self.all_deeds(village):
                self.refuse(BookFull, called, *handed)
            self.assertEqual(told_of(village), before)

    def test_the_hundredth_deed_of_each_kind(self):
        field = [(1, 5), (2, 5), (2, 5)]
        for name, *numbers in (("sell", 1, 2), ("part", 1, 2), ("unite", 2), ("wish", 1, 2), ("drop", 1, 2)):
            village = Village(field)
            village.wish(2, 1)
            while len(village.deeds()) < 99:
                village.sell(3, 1 if village.strips()[2][0] == 2 else 2)
            if name == "drop":
                village.take_back()
                village.wish(1, 2)
            elif village.strips()[2][0] == 1:
                village.take_back()
                village.wish(3, 4)
            self.assertEqual(len(village.deeds()), 99)
            self.assertEqual(getattr(village, name)(*numbers), 100)
            self.assertEqual(village.deeds()[99], (name, *numbers))
            self.refused(BookFull, village, village.sell, 1, 9)
            self.assertEqual(village.take_back(), (name, *numbers))
            self.assertEqual(village.sell(1, 9), 100)

    def test_refusals_come_as_ever_with_ninety_nine_deeds(self):
        village = full_village([(1, 5), (1, 5)])
        village.take_back()
        self.refused(NoStrip, village, village.sell, 3, 0)
        self.refused(NoStrip, village, village.part, 3, 0)
        self.refused(NoStrip, village, village.unite, 2)
        self.refused(LikeHolders, village, village.wish, 1, 1)
        self.refused(NoWish, village, village.drop, 1, 1)
        self.assertEqual(village.unite(1), 100)

    def test_a_deed_that_was_taken_back_does_not_count(self):
        village = Village([(1, 5)])
        for _ in range(150):
            self.assertEqual(village.sell(1, 2), 1)
            self.assertEqual(village.take_back(), ("sell", 1, 2))
        self.check(village, [(1, 5)], [], [])
        village = full_village([(1, 5)])
        for _ in range(3):
            village.take_back()
            self.assertEqual(village.sell(1, 2), 100)
            self.refused(BookFull, village, village.sell, 1, 3)
        self.assertEqual(village.strips(), [(2, 5)])

    def test_questions_are_asked_as_ever_with_a_full_book(self):
        village = full_village(FIELD)
        self.assertEqual((village.order(), village.cost(), village.ring()), ([3, 1, 2], 82, []))
        self.assertEqual(village.price([1, 2, 3]), 143)
        self.assertEqual(village.stood(100), (FIELD, []))
        self.assertEqual(village.stood(99), (FIELD, [(9, 8)]))


class TakeBackTest(VillageCase):
    def test_nothing_is_done(self):
        for field in ([], FIELD):
            village = Village(field)
            self.refused(NothingDone, village, village.take_back)
            village.wish(1, 2)
            self.assertEqual(village.take_back(), ("wish", 1, 2))
            self.refused(NothingDone, village, village.take_back)
            self.refused(NothingDone, village, village.take_back)

    def test_each_deed(self):
        village = village_with([(1, 4), (1, 6), (2, 3), (1, 5)], [(2, 1), (1, 2), (3, 1)])
        before = told_of(village)
        for name, *numbers in (("sell", 3, 1), ("part", 4, 2), ("unite", 1), ("wish", 7, 1), ("drop", 2, 1),
                               ("drop", 1, 2), ("drop", 3, 1)):
            self.assertEqual(getattr(village, name)(*numbers), 4)
            self.assertNotEqual(told_of(village), before)
            self.assertEqual(village.take_back(), (name, *numbers))
            self.assertEqual(told_of(village), before)

    def test_a_dropped_wish_comes_back_to_its_old_place(self):
        wishes = [(3, 1), (1, 3), (10, 2), (2, 10)]
        village = village_with([], wishes)
        village.drop(1, 3)
        village.wish(1, 3)
        self.assertEqual(village.wishes(), [(3, 1), (10, 2), (2, 10), (1, 3)])
        self.assertEqual(village.take_back(), ("wish", 1, 3))
        self.assertEqual(village.wishes(), [(3, 1), (10, 2), (2, 10)])
        self.assertEqual(village.take_back(), ("drop", 1, 3))
        self.assertEqual(village.wishes(), wishes)

    def test_back_to_the_beginning(self):
        village = Village(FIELD)
        told = [told_of(village)]
        deeds = [("wish", 2, 1), ("sell", 2, 3), ("unite", 1), ("wish", 1, 2), ("part", 1, 10), ("drop", 2, 1),
                 ("unite", 2), ("wish", 2, 1), ("sell", 3, 3), ("drop", 1, 2), ("unite", 1)]
        for number, (name, *numbers) in enumerate(deeds, start=1):
            self.assertEqual(getattr(village, name)(*numbers), number)
            told.append(told_of(village))
        self.assertEqual(village.deeds(), deeds)
        for deed in deeds[::-1]:
            self.assertEqual(told_of(village), told.pop())
            self.assertEqual(village.take_back(), deed)
        self.assertEqual([told_of(village)], told)
        self.refused(NothingDone, village, village.take_back)


class StoodTest(VillageCase):
    def test_each_number(self):
        village = Village(FIELD)
        stood = [(village.strips(), village.wishes())]
        for name, *numbers in (("wish", 2, 1), ("sell", 2, 3), ("unite", 1), ("drop", 2, 1), ("part", 1, 10)):
            getattr(village, name)(*numbers)
            stood.append((village.strips(), village.wishes()))
        self.assertEqual([village.stood(many) for many in range(6)], stood)
        self.assertEqual(stood[0], (FIELD, []))
        self.assertEqual(stood[3], ([(3, 11), (3, 4), (2, 8), (1, 1), (3, 6)], [(2, 1)]))
        for many in range(5, -1, -1):
            self.assertEqual([village.stood(number) for number in range(many + 1)], stood[:many + 1])
            self.refused(NoSuchDeed, village, village.stood, many + 1)
            if many:
                village.take_back()

    def test_numbers_out_of_bounds(self):
        for village in (Village([]), Village(FIELD), village_with(FIELD, [(1, 2), (2, 3)]), full_village([])):
            most = len(village.deeds())
            for number, many in enumerate((-HUGE, -100, -2, -1, most + 1, most + 2, 101, HUGE)):
                with self.subTest(most=most, number=number):
                    self.refused(NoSuchDeed, village, village.stood, many)

    def test_another_deed_in_the_place_of_one_taken_back(self):
        village = Village([(1, 5)])
        village.sell(1, 2)
        village.take_back()
        village.sell(1, 3)
        self.assertEqual(village.stood(1), ([(3, 5)], []))
        self.assertEqual(village.stood(0), ([(1, 5)], []))

    def test_kinds(self):
        for village in (Village([]), village_with(FIELD, [(1, 2)])):
            told = village.stood(len(village.deeds()))
            self.assertEqual((told.__class__, len(told)), (tuple, 2))
            self.check_kinds(told[0], tuple)
            self.check_kinds(told[1], tuple)


class QuestionTest(VillageCase):
    def check_questions(self, village):
        strips, wishes = village.strips(), village.wishes()
        self.assertEqual(village.ring(), find_ring(holders_of(strips), wishes))
        self.check_kinds(village.ring(), int)
        asked = (village.order, village.cost, village.table, village.moves, village.melded)
        if village.ring():
            for question in asked:
                error = self.refused(Ringed, village, question)
                self.assertEqual(error.members, village.ring())
                self.check_kinds(error.members, int)
        else:
            order = best_order(strips, wishes)
            expected = [order, least_cost(strips, wishes), cost_table(strips, wishes), told_moves(strips, order),
                        gathered(strips, order)]
            self.assertEqual([question() for question in asked], expected)
        for order in (holders_of(strips), holders_of(strips)[::-1]):
            self.assertEqual(self.ask(village.price, order), order_cost(strips, order))
            self.assertEqual(self.ask(village.broken, order), broken_wishes(order, wishes))

    def test_by_hand(self):
        village = Village(FIELD)
        self.assertEqual((village.ring(), village.order(), village.cost()), ([], [3, 1, 2], 82))
        self.assertEqual(village.table(), [0, 0, 0, 8, 0, 26, 48, 82])
        self.assertEqual(village.moves(), [(2, 2, 3, 8), (4, 4, 5, 8), (5, 4, 6, 48), (4, 5, 6, 6), (3, 2, 6, 12)])
        self.assertEqual(village.melded(), [(3, 9), (3, 4), (3, 6), (1, 2), (1, 1), (2, 8)])
        village.wish(2, 3)
        self.assertEqual((village.order(), village.cost()), ([1, 2, 3], 143))
        self.assertEqual(village.melded(), [(1, 2), (1, 1), (2, 8), (3, 9), (3, 4), (3, 6)])
        self.assertEqual((village.price([3, 1, 2]), village.broken([3, 1, 2])), (82, [(2, 3)]))
        self.assertEqual((village.price([1, 2, 3]), village.broken([1, 2, 3])), (143, []))
        village.wish(3, 2)
        self.assertEqual(village.ring(), [2, 3])
        self.assertEqual(village.broken([3, 1, 2]), [(2, 3)])
        self.assertEqual(village.broken([1, 2, 3]), [(3, 2)])

    def test_without_strips(self):
        for village in (Village([]), village_with([], [(1, 2), (2, 1)])):
            self.assertEqual((village.ring(), village.order(), village.cost(), village.table()), ([], [], 0, [0]))
            self.assertEqual((village.moves(), village.melded()), ([], []))
            self.assertEqual((village.price([]), village.broken([])), (0, []))

    def test_each_question_as_the_function_of_the_same_name(self):
        for strips in ([], [(2, 1)], FIELD, [(2, 1), (1, 2), (2, 1)], FORTY):
            for wishes in ([], [(2, 1)], [(1, 2), (2, 1)], [(1, 4), (4, 1)], [(3, 1), (1, 2), (2, 3), (5, 6)], TWENTY):
                self.check_questions(village_with(strips, wishes))

    def test_the_deeds_change_what_is_told(self):
        village = Village(FIELD)
        for name, *numbers in (("sell", 2, 3), ("wish", 2, 3), ("unite", 1), ("wish", 3, 2), ("part", 2, 3),
                               ("drop", 2, 3), ("sell", 4, 7), ("wish", 7, 3), ("wish", 2, 7), ("drop", 3, 2)):
            getattr(village, name)(*numbers)
            self.check_questions(village)
        while village.deeds():
            village.take_back()
            self.check_questions(village)

    def test_rings(self):
        village = village_with([(4, 1), (2, 1), (1, 1)], [(2, 1), (4, 2), (1, 4), (5, 6), (6, 5)])
        self.assertEqual(village.ring(), [1, 4, 2])
        self.check_questions(village)
        village.sell(3, 5)
        self.assertEqual((village.ring(), village.order()), ([], [4, 2, 5]))
        village.sell(1, 6)
        self.assertEqual(village.ring(), [5, 6])
        self.check_questions(village)

    def test_bad_orders_are_refused(self):
        for strips in ([], [(4, 3)], [(2, 1), (1, 5)], FIELD, FORTY):
            for wishes in ([], [(1, 2), (2, 1), (4, 5)]):
                village = village_with(strips, wishes)
                for number, order in enumerate(wrong_orders(strips)):
                    with self.subTest(strips, number=number):
                        self.refuse(BadOrder, village.price, order)
                        self.refuse(BadOrder, village.broken, order)
                self.check(village, strips, wishes, [("wish",) + wish for wish in wishes])

    def test_an_order_is_one_of_the_field_as_it_stands(self):
        village = Village([(1, 5), (2, 3)])
        village.sell(2, 4)
        self.refused(BadOrder, village, village.price, [1, 2])
        self.refused(BadOrder, village, village.broken, [1, 2])
        self.assertEqual(village.price([4, 1]), 15)

    def test_kinds(self):
        for village in (Village([]), village_with(FIELD, [(1, 2)])):
            order = village.order()
            for told in (order, village.table(), village.ring()):
                self.check_kinds(told, int)
            for told in (village.moves(), village.melded(), village.broken(order[::-1])):
                self.check_kinds(told, tuple)
            self.assertEqual((village.cost().__class__, village.price(order).__class__), (int, int))


class OfferTest(VillageCase):
    def check_offer(self, village, place, holder):
        before = told_of(village)
        offered = village.offer(place, holder)
        self.assertIs(offered.__class__, int)
        self.assertEqual(told_of(village), before)
        other = village_with(village.strips(), village.wishes())
        other.sell(place, holder)
        self.assertEqual(offered, other.cost() - village.cost())
        return offered

    def test_every_offer(self):
        told = []
        for wishes in ([], [(2, 3)], [(4, 1), (1, 3)]):
            village = village_with(FIELD, wishes)
            for place, holder in itertools.product(range(1, 7), TEN):
                if FIELD[place - 1][0] != holder:
                    told.append(self.check_offer(village, place, holder))
        self.assertTrue(min(told) < 0 < max(told) and 0 in told)

    def test_by_hand(self):
        village = Village([(1, 3), (2, 5), (1, 2)])
        self.assertEqual(village.offer(3, 2), -10)
        self.assertEqual(village.offer(1, 2), -10)
        self.assertEqual(village.offer(2, 1), -10)
        self.assertEqual(village.offer(2, 3), 0)
        village = Village([(1, 3), (1, 5), (1, 2)])
        self.assertEqual(village.offer(2, 2), 10)
        self.assertEqual(village.offer(3, 2), 0)
        village.wish(2, 1)
        self.assertEqual(village.offer(3, 2), 16)

    def test_ten_holders(self):
        village = village_with(FORTY, TWENTY)
        for place, holder in ((1, 10), (40, 1), (17, 5)):
            self.check_offer(village, place, holder)

    def test_refusals_of_the_sale(self):
        for wishes in ([], [(1, 2), (2, 1)], [(1, 3), (4, 3), (3, 4)]):
            village = village_with(FIELD, wishes)
            for number, place in enumerate(OFF + (7, -6)):
                with self.subTest(wishes, number=number):
                    for holder in (0, 3, 2):
                        self.refused(NoStrip, village, village.offer, place, holder)
            for number, holder in enumerate((-HUGE, -1, 0, 11, HUGE)):
                with self.subTest(wishes, number=number):
                    self.refused(BadHolder, village, village.offer, 1, holder)
            self.refused(OwnStrip, village, village.offer, 1, 3)
            self.refused(OwnStrip, village, village.offer, 6, 3)
        village = Village([])
        self.refused(NoStrip, village, village.offer, 1, 1)

    def test_a_ring_as_it_stands(self):
        village = village_with([(1, 2), (2, 3), (3, 4)], [(2, 3), (3, 2)])
        self.assertEqual(self.refused(Ringed, village, village.offer, 1, 4).members, [2, 3])
        # Behind this sale there would be none.
        self.assertEqual(self.refused(Ringed, village, village.offer, 2, 1).members, [2, 3])

    def test_a_ring_behind_the_sale(self):
        village = village_with([(1, 2), (2, 3), (2, 4)], [(2, 3), (3, 2), (1, 4), (4, 2), (2, 1)])
        self.assertEqual(village.ring(), [])
        self.assertEqual(self.refused(Ringed, village, village.offer, 3, 3).members, [2, 3])
        self.assertEqual(self.refused(Ringed, village, village.offer, 3, 4).members, [1, 4, 2])
        self.assertEqual(village.offer(1, 5), -14)

    def test_the_ring_as_it_stands_comes_first(self):
        village = village_with([(4, 2), (2, 3), (2, 4)], [(4, 2), (2, 4), (1, 2), (2, 1)])
        self.assertEqual(self.refused(Ringed, village, village.offer, 2, 1).members, [2, 4])

    def test_with_a_hundred_deeds(self):
        village = full_village(FIELD)
        for place, holder in ((1, 2), (2, 3), (6, 10)):
            self.check_offer(village, place, holder)
        self.refused(NoStrip, village, village.offer, 7, 3)
        self.refused(BadHolder, village, village.offer, 1, 11)
        self.refused(OwnStrip, village, village.offer, 1, 3)
        self.refused(BookFull, village, village.sell, 1, 2)


class NewListsTest(VillageCase):
    def lists_told(self, village):
        strips, wishes = village.stood(1)
        order = village.order()
        return [village.strips(), village.wishes(), village.deeds(), strips, wishes, *village.stood(0),
                *village.stood(2), village.ring(), order, village.table(), village.moves(), village.melded(),
                village.broken(order), village.broken(order[::-1])]

    def test_changing_what_is_told_changes_nothing(self):
        village = village_with(FIELD, [(1, 2), (2, 3)])
        before = told_of(village)
        kept = self.lists_told(village)
        for told in self.lists_told(village):
            told.append((1, 1))
            self.assertEqual(told_of(village), before)
            told.clear()
            self.assertEqual(told_of(village), before)
        village.wish(3, 1)
        self.assertEqual(village.ring(), [1, 2, 3])
        for asked in (village.ring, lambda: self.refuse(Ringed, village.cost).members,
                      lambda: self.refuse(Ringed, village.offer, 1, 2).members):
            asked().append(77)
            asked().clear()
            self.assertEqual(asked(), [1, 2, 3])
        village.take_back()
        self.assertEqual(self.lists_told(village), kept)

    def test_what_is_told_stays_when_the_village_changes(self):
        village = village_with(FIELD, [(1, 2), (2, 3)])
        told = self.lists_told(village)
        kept = [list(each) for each in told]
        village.sell(1, 7)
        village.drop(1, 2)
        village.part(1, 3)
        self.assertEqual(told, kept)
        for _ in range(5):
            village.take_back()
        self.assertEqual(told, kept)

    def test_the_list_handed_in_is_changed_later(self):
        field = list(FIELD)
        village = Village(field)
        field[0] = (1, 1)
        field.append((7, 7))
        self.assertEqual((village.strips(), village.stood(0)), (FIELD, (FIELD, [])))
        field.clear()
        village.sell(1, 7)
        village.take_back()
        self.check(village, FIELD, [], [])
        self.assertEqual((field, village.order()), ([], [3, 1, 2]))

    def test_deeds_do_not_change_the_list_handed_in(self):
        field = [(1, 5), (1, 6)]
        village = Village(field)
        village.sell(1, 2)
        village.part(2, 3)
        village.unite(2)
        village.take_back()
        self.assertEqual(field, [(1, 5), (1, 6)])

    def test_an_order_handed_in_is_changed_later(self):
        village = village_with(FIELD, [(1, 2), (2, 3)])
        order = [3, 2, 1]
        broken = village.broken(order)
        price = village.price(order)
        order.clear()
        self.assertEqual((broken, village.broken([3, 2, 1])), ([(1, 2), (2, 3)], [(1, 2), (2, 3)]))
        self.assertEqual(price, village.price([3, 2, 1]))

    def test_two_villages_share_nothing(self):
        field = list(FIELD)
        one, other = Village(field), Village(field)
        before = told_of(other)
        one.sell(1, 7)
        one.wish(7, 1)
        one.part(6, 2)
        self.assertEqual(told_of(other), before)
        told = told_of(one)
        self.refuse(NothingDone, other.take_back)
        other.wish(1, 7)
        other.sell(2, 2)
        other.take_back()
        self.assertEqual(told_of(one), told)
        third = Village(one.strips())
        third.sell(2, 9)
        self.assertEqual(told_of(one), told)
        self.assertEqual(told_of(Village(field)), before)

    def test_asking_changes_nothing(self):
        village = village_with(FIELD, [(2, 3)])
        before = told_of(village)
        for _ in range(3):
            village.price([1, 2, 3])
            village.broken([3, 2, 1])
            village.offer(1, 2)
            village.stood(0)
            self.assertEqual(told_of(village), before)


class Replayed:
    """A village as the document tells it, of which only the beginning and the deeds that stand are kept."""

    def __init__(self, field):
        self.beginning = list(field)
        self.deeds = []

    def stood(self, many):
        strips, wishes = list(self.beginning), []
        for name, first, *second in self.deeds[:many]:
            if name == "sell":
                strips[first - 1] = (second[0], strips[first - 1][1])
            elif name == "part":
                holder, width = strips.pop(first - 1)
                strips.insert(first - 1, (holder, width - second[0]))
                strips.insert(first - 1, (holder, second[0]))
            elif name == "unite":
                holder, width = strips.pop(first)
                strips[first - 1] = (holder, strips[first - 1][1] + width)
            elif name == "wish":
                wishes.append((first, second[0]))
            else:
                wishes.remove((first, second[0]))
        return strips, wishes

    def due(self, name, first, second=None):
        """The refusals that are due, the one that comes first ahead."""
        strips, wishes = self.stood(len(self.deeds))
        lies = 1 <= first <= len(strips)
        holder, width = strips[first - 1] if lies else (None, None)
        right = strips[first] if 1 <= first < len(strips) else None
        due = {
            "sell": lambda: [(NoStrip, not lies), (BadHolder, second not in TEN), (OwnStrip, holder == second)],
            "part": lambda: [(NoStrip, not lies), (BadPart, lies and not 0 < second < width),
                             (TooManyStrips, len(strips) == 40)],
            "unite": lambda: [(NoStrip, not right), (UnlikeHolders, right and right[0] != holder),
                              (TooWide, right and right[1] + width > 1000)],
            "wish": lambda: [(BadHolder, first not in TEN or second not in TEN), (LikeHolders, first == second),
                             (WishStands, (first, second) in wishes), (TooManyWishes, len(wishes) == 20)],
            "drop": lambda: [(NoWish, (first, second) not in wishes)],
        }[name]()
        return [error for error, is_due in [(BookFull, len(self.deeds) == 100)] + due if is_due]


class ManyDeedsTest(VillageCase):
    def chosen(self, chance, village, many_holders):
        name = chance.choice(("sell", "part", "unite", "wish", "drop"))
        strips, wishes = village.strips(), village.wishes()
        if name == "drop" and wishes and chance.random() < 0.5:
            return (name,) + chance.choice(wishes)
        if name in ("wish", "drop"):
            return name, chance.randint(0, many_holders), chance.randint(1, many_holders)
        place = chance.randint(0, len(strips) + 1)
        if name == "unite":
            return name, place
        width = strips[place - 1][1] if 1 <= place <= len(strips) else 5
        return name, place, chance.randint(0, 11) if name == "sell" else chance.randint(0, min(width, 999) + 1)

    def do(self, village, model, deed):
        name, *numbers = deed
        due = model.due(*deed)
        if due:
            self.refuse(due[0], getattr(village, name), *numbers)
        else:
            model.deeds.append(deed)
            self.assertEqual(getattr(village, name)(*numbers), len(model.deeds))

    def test_many_deeds_against_a_replayed_village(self):
        chance = random.Random(18)
        for number in range(25):
            field = [(chance.randint(1, 3), chance.choice((1, 2, 5, 499, 500, 501, 1000)))
                     for _ in range(chance.choice((0, 1, 6, 37, 40)))]
            village, model = Village(field), Replayed(field)
            for _ in range(220):
                if chance.random() < (0.05, 0.3, 0.55)[number % 3]:
                    if model.deeds:
                        self.assertEqual(village.take_back(), model.deeds.pop())
                    else:
                        self.refuse(NothingDone, village.take_back)
                else:
                    self.do(village, model, self.chosen(chance, village, (5, 11)[number % 2]))
                strips, wishes = model.stood(len(model.deeds))
                self.check(village, strips, wishes, model.deeds)
                many = chance.randint(0, len(model.deeds))
                self.assertEqual(village.stood(many), model.stood(many))


if __name__ == "__main__":
    unittest.main()
